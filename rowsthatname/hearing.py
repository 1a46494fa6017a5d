"""What outcomes that were heard, some of them wrong, tell of the faults."""

from rowsthatname.bits import bits_of, count_bits, numbers_in
from rowsthatname.faults import all_faults, classes, let_marks, need_heard, need_rows, need_wrong, signs_by
from rowsthatname.rigs import is_lot


def need_told(rig, shape, suite, heard, wrong):
    """Raises the error of the first argument that is refused."""
    need_rows(rig, shape, suite)
    need_heard(suite, heard)
    need_wrong(wrong)


def missed_rows(shape, suite, heard, those):
    """For each of those faults the rows whose outcome differs from what was heard, as bits."""
    told = bits_of(heard)
    return [sign ^ told for sign in signs_by(shape, suite, those)]


def fitting(rig, shape, suite, heard, wrong):
    """The ascending tuple of the faults that fit."""
    need_told(rig, shape, suite, heard, wrong)
    every = all_faults(rig, shape)
    missed = missed_rows(shape, suite, heard, every)
    return tuple([faults for faults, rows in zip(every, missed) if count_bits(rows) <= wrong])


def fitting_classes(rig, shape, suite, heard, wrong):
    """The ascending tuple of the classes of alike faults that fit."""
    need_told(rig, shape, suite, heard, wrong)
    groups = classes(rig, shape)
    # Alike faults have the same outcomes, so the first one speaks for its class.
    missed = missed_rows(shape, suite, heard, [group[0] for group in groups])
    return tuple([group for group, rows in zip(groups, missed) if count_bits(rows) <= wrong])


def is_named(rig, shape, suite, heard, wrong):
    """Whether just one class of alike faults fits."""
    return len(fitting_classes(rig, shape, suite, heard, wrong)) == 1


def verdict(rig, shape, suite, heard, wrong, lot):
    """Whether a lot "fails" surely, "may", or is surely "good"; None of what cannot fail, or if no faults fit."""
    fit = fitting(rig, shape, suite, heard, wrong)
    values, _ = rig
    if not is_lot(values, lot) or lot not in let_marks(rig, shape) or len(fit) == 0:
        return None
    having = [faults for faults in fit if lot in faults]
    if len(having) == len(fit):
        return "fails"
    return "may" if having else "good"


def sure_lots(rig, shape, suite, heard, wrong):
    """The ascending tuple of the lots that surely fail; None if no faults fit."""
    fit = fitting(rig, shape, suite, heard, wrong)
    if len(fit) == 0:
        return None
    return tuple([lot for lot in fit[0] if all([lot in faults for faults in fit])])


def possible_lots(rig, shape, suite, heard, wrong):
    """The ascending tuple of the lots that are in faults that fit."""
    fit = fitting(rig, shape, suite, heard, wrong)
    return tuple(sorted(set([lot for faults in fit for lot in faults])))


def least_wrong(rig, shape, suite, heard):
    """In how few places the outcomes by faults differ from those that were heard."""
    need_rows(rig, shape, suite)
    need_heard(suite, heard)
    missed = missed_rows(shape, suite, heard, all_faults(rig, shape))
    return min([count_bits(rows) for rows in missed])


def wrong_rows(rig, shape, suite, heard, wrong):
    """The ascending tuple of the numbers of the rows that were heard wrong by all faults that fit, or None."""
    fit = fitting(rig, shape, suite, heard, wrong)
    if len(fit) == 0:
        return None
    common = (1 << len(suite)) - 1
    for rows in missed_rows(shape, suite, heard, fit):
        common = common & rows
    return numbers_in(common)
