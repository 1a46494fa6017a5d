"""Whether a suite detects each lot that fails by the quick rule, also with wrong outcomes."""

from rowsthatname.bits import bits_of, count_bits, numbers_in
from rowsthatname.errors import BadPaper
from rowsthatname.faults import MOST_ROWS, all_faults, is_faults, let_marks, lot_marks, lots_that_can_fail
from rowsthatname.faults import need_heard, need_rows, need_wrong, signs_by
from rowsthatname.papers import has_form, word_of
from rowsthatname.rigs import is_lot, is_number, is_tuple, meets, meets_any, need_number


def rows_of_lots(rig, shape, suite):
    """The ascending list of the pairs of a lot that can fail and the rows of a suite that meet it, as bits."""
    size, _ = shape
    marks = lot_marks(suite, size)
    return [(lot, marks.get(lot, 0)) for lot in lots_that_can_fail(rig, shape)]


def shown_cases(rig, shape, suite):
    """The ascending list of the triples of the lot and the faults of a case, and the rows that show it, as bits."""
    every = all_faults(rig, shape)
    signs = signs_by(shape, suite, every)
    lots = rows_of_lots(rig, shape, suite)
    return [(lot, faults, rows & ~sign) for lot, rows in lots
            for faults, sign in zip(every, signs) if lot not in faults]


def detects(rig, shape, suite, wrong):
    """Whether a suite detects with so many wrong outcomes."""
    return hidden_case(rig, shape, suite, wrong) is None


def hidden_case(rig, shape, suite, wrong):
    """The least case such that at most 2 wrong rows show the lot, or None."""
    need_rows(rig, shape, suite)
    need_wrong(wrong)
    for lot, faults, shown in shown_cases(rig, shape, suite):
        if count_bits(shown) <= 2 * wrong:
            return lot, faults
    return None


def least_shown(rig, shape, suite):
    """How many rows show a lot in a case at least; None if there is no case."""
    need_rows(rig, shape, suite)
    cases = shown_cases(rig, shape, suite)
    return min([count_bits(shown) for _, _, shown in cases], default=None)


def hidden_lots(rig, shape, suite):
    """The ascending tuple of the lots that no row shows in some case."""
    need_rows(rig, shape, suite)
    cases = shown_cases(rig, shape, suite)
    return tuple(sorted(set([lot for lot, _, shown in cases if shown == 0])))


def suspects(rig, shape, suite, heard, wrong):
    """The ascending tuple of the lots of whose rows at most so many were heard to be good."""
    need_rows(rig, shape, suite)
    need_heard(suite, heard)
    need_wrong(wrong)
    failed = bits_of(heard)
    return tuple([lot for lot, rows in rows_of_lots(rig, shape, suite) if count_bits(rows & ~failed) <= wrong])


def detect_paper(rig, shape, suite, wrong):
    """A paper on whether a suite detects with so many wrong outcomes."""
    case = hidden_case(rig, shape, suite, wrong)
    if case is None:
        return "detects", tuple([numbers_in(shown) for _, _, shown in shown_cases(rig, shape, suite)])
    lot, faults = case
    return "hidden", lot, faults


def is_showing(shown, wrong, value):
    """Whether a value is an ascending tuple of more than 2 wrong numbers of rows that show a lot."""
    if not is_tuple(value, 2 * wrong + 1, MOST_ROWS):
        return False
    last = -1
    for number in value:
        if not is_number(number, last + 1, MOST_ROWS - 1) or (shown >> number) & 1 == 0:
            return False
        last = number
    return True


def holds_detects(rig, shape, suite, wrong, told):
    """Whether these are, for each case, enough rows that show the lot."""
    cases = shown_cases(rig, shape, suite)
    if not is_tuple(told, len(cases), len(cases)):
        return False
    return all([is_showing(shown, wrong, numbers) for (_, _, shown), numbers in zip(cases, told)])


def holds_hidden(rig, shape, suite, wrong, lot, faults):
    """Whether these are a case, such that too few rows show the lot."""
    values, _ = rig
    marks = let_marks(rig, shape)
    if not is_lot(values, lot) or lot not in marks or not is_faults(rig, shape, marks, faults) or lot in faults:
        return False
    shown = [row for row in suite if meets(row, lot) and not meets_any(row, faults)]
    return len(shown) <= 2 * wrong


def check_detects(rig, shape, suite, wrong, paper):
    """The word of a paper on whether a suite detects with so many wrong outcomes."""
    need_rows(rig, shape, suite)
    need_wrong(wrong)
    if has_form(paper, "detects", 2):
        return word_of("detects", holds_detects(rig, shape, suite, wrong, paper[1]))
    if has_form(paper, "hidden", 3):
        return word_of("hidden", holds_hidden(rig, shape, suite, wrong, paper[1], paper[2]))
    raise BadPaper("form")


def first_detecting(rig, shape, suite):
    """How many first rows of a suite are the fewest that detect without wrong outcomes, or None."""
    need_rows(rig, shape, suite)
    needed = 0
    for _, _, shown in shown_cases(rig, shape, suite):
        if shown == 0:
            return None
        # The lowest bit is the first row that shows the lot.
        needed = max(needed, (shown & -shown).bit_length())
    return needed


def hidden_behind(rig, shape, suite, many):
    """The ascending tuple of the lots that none of so many first rows shows in some case."""
    need_rows(rig, shape, suite)
    need_number(many, 0, len(suite))
    return hidden_lots(rig, shape, suite[:many])


def meeting_counts(rig, shape, suite):
    """The ascending tuple of the pairs of a lot that can fail and how many rows of a suite meet it."""
    need_rows(rig, shape, suite)
    return tuple([(lot, count_bits(rows)) for lot, rows in rows_of_lots(rig, shape, suite)])
