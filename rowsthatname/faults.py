"""Shapes of a rig, their faults, and the outcomes of suites by these."""

from itertools import combinations

from rowsthatname.errors import BadFaults, BadOutcomes, BadShape, BadSuite, TooGreat
from rowsthatname.rigs import MOST_SETTINGS, first_wrong_lot, is_let, is_number, is_tuple
from rowsthatname.rigs import let_rows, meets_any, need_number, need_rig

MOST_LOTS = 2
MOST_ROWS = 40
MOST_FAULTS = 2000
MOST_WRONG = 5


def is_shape(values, value):
    """Whether a value is a shape of a rig with such VALUES."""
    if not is_tuple(value, 2, 2):
        return False
    size, most = value
    return is_number(size, 1, min(MOST_SETTINGS, len(values))) and is_number(most, 1, MOST_LOTS)


def need_shape(rig, shape):
    """The shape itself."""
    values, _ = need_rig(rig)
    if not is_shape(values, shape):
        raise BadShape(shape)
    return shape


def is_faults(rig, shape, marks, value):
    """Whether a value is faults of a rig and a shape, with the marks of the lots that can fail."""
    values, _ = rig
    _, most = shape
    if not is_tuple(value, 0, most) or first_wrong_lot(values, value) is not None:
        return False
    return all([lot in marks for lot in value])


def need_faults(rig, shape, faults):
    """The faults themselves."""
    need_shape(rig, shape)
    if not is_faults(rig, shape, let_marks(rig, shape), faults):
        raise BadFaults(faults)
    return faults


def need_suite(rig, suite):
    """The suite itself."""
    need_rig(rig)
    if not isinstance(suite, (list, tuple)) or len(suite) > MOST_ROWS:
        raise BadSuite(None)
    for number, row in enumerate(suite):
        if not is_let(rig, row):
            raise BadSuite(number)
    return suite


def need_rows(rig, shape, suite):
    """The suite itself, of a rig and a shape."""
    need_shape(rig, shape)
    return need_suite(rig, suite)


def is_outcome(value):
    """Whether a value is the outcome of a row: True if it fails."""
    return value is True or value is False


def is_outcomes(suite, value):
    """Whether a value is outcomes of a suite."""
    if not is_tuple(value, len(suite), len(suite)):
        return False
    return all([is_outcome(outcome) for outcome in value])


def need_heard(suite, heard):
    """The outcomes that were heard themselves."""
    if not is_outcomes(suite, heard):
        raise BadOutcomes(heard)
    return heard


def need_wrong(wrong):
    """The number of wrong outcomes itself."""
    return need_number(wrong, 0, MOST_WRONG)


def lots_met(row, size):
    """The lots of so many settings that a row meets."""
    return [tuple([(knob, row[knob]) for knob in knobs]) for knobs in combinations(range(len(row)), int(size))]


def lot_marks(rows, size):
    """A dict of each lot of so many settings that some row meets: the numbers of those rows, as bits of an integer."""
    marks = {}
    for number, row in enumerate(rows):
        for lot in lots_met(row, size):
            marks[lot] = marks.get(lot, 0) | (1 << number)
    return marks


def fault_marks(marks, faults):
    """The numbers of the rows that fail by faults, as bits, from those that meet each lot."""
    failing = 0
    for lot in faults:
        failing = failing | marks.get(lot, 0)
    return failing


def let_marks(rig, shape):
    """A dict of each lot that can fail: the numbers of the let rows that meet it, as bits."""
    size, _ = need_shape(rig, shape)
    return lot_marks(let_rows(rig), size)


def lots_that_can_fail(rig, shape):
    """The ascending tuple of all lots that can fail."""
    return tuple(sorted(list(let_marks(rig, shape))))


def signs_by(shape, rows, those):
    """The outcomes of some rows by each of those faults, as bits: the numbers of the rows that fail."""
    size, _ = shape
    marks = lot_marks(rows, size)
    return [fault_marks(marks, faults) for faults in those]


def count_faults(many_lots, most):
    """How many faults have at most so many of so many lots, one or two."""
    if most == 1:
        return 1 + many_lots
    return 1 + many_lots + many_lots * (many_lots - 1) // 2


def all_faults(rig, shape):
    """The ascending tuple of all faults."""
    lots = lots_that_can_fail(rig, shape)
    _, most = shape
    if count_faults(len(lots), most) > MOST_FAULTS:
        raise TooGreat(MOST_FAULTS)
    found = [()]
    for number, lot in enumerate(lots):
        found.append((lot,))
        if most == 2:
            found.extend([(lot, later) for later in lots[number + 1:]])
    return tuple(found)


def outcomes(rig, shape, faults, suite):
    """The outcomes of a suite by faults: True for each row that fails."""
    need_faults(rig, shape, faults)
    need_suite(rig, suite)
    return tuple([meets_any(row, faults) for row in suite])


def classes(rig, shape):
    """The ascending tuple of the ascending tuples of faults that are alike."""
    every = all_faults(rig, shape)
    alike = {}
    for faults, sign in zip(every, signs_by(shape, let_rows(rig), every)):
        alike.setdefault(sign, []).append(faults)
    # A dict keeps the order of its keys, so the classes stand as their first ones do.
    return tuple([tuple(group) for group in alike.values()])


def let_bits(rig, suite):
    """The numbers of the let rows that are in a suite, as bits."""
    bits = 0
    for number, row in enumerate(let_rows(rig)):
        if row in suite:
            bits = bits | (1 << number)
    return bits


def first_ones(rig, shape):
    """The first one of each class of alike faults, ascending."""
    return [group[0] for group in classes(rig, shape)]


def parting_rows(rig, shape, one, other):
    """The ascending tuple of the let rows that part two faults."""
    need_faults(rig, shape, one)
    need_faults(rig, shape, other)
    return tuple([row for row in let_rows(rig) if meets_any(row, one) != meets_any(row, other)])


def are_alike(rig, shape, one, other):
    """Whether two faults are alike."""
    return len(parting_rows(rig, shape, one, other)) == 0


def failing_rows(rig, shape, faults):
    """The ascending tuple of the let rows that fail by faults."""
    need_faults(rig, shape, faults)
    return tuple([row for row in let_rows(rig) if meets_any(row, faults)])
