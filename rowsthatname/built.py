"""Suites that are built row by row, and bounds from below of how many rows name the faults."""

from rowsthatname.errors import BadPaper, TooGreat
from rowsthatname.faults import MOST_ROWS, classes, fault_marks, first_ones, is_faults, let_bits, let_marks
from rowsthatname.faults import need_rows, need_shape, signs_by
from rowsthatname.naming import first_signs, same_signs
from rowsthatname.rigs import is_tuple, let_rows, need_number


def mixed_count(rig, shape, suite):
    """How many pairs of classes of alike faults have the same outcomes by a suite."""
    need_rows(rig, shape, suite)
    groups = same_signs(first_signs(rig, shape, suite))
    return sum([len(group) * (len(group) - 1) // 2 for group in groups])


def first_equals(signs, bits):
    """For each sign the number of the first one that is the same in these bits."""
    first = {}
    labels = []
    for number, sign in enumerate(signs):
        labels.append(first.setdefault(sign & bits, number))
    return labels


def count_parted(labels, sizes, failing):
    """How many pairs of classes with the same label a row parts that fails by these classes."""
    fails = {}
    for number in failing:
        fails[labels[number]] = fails.get(labels[number], 0) + 1
    return sum([many * (sizes[label] - many) for label, many in fails.items()])


def best_row(labels, failing_by):
    """The number of the first row that parts the most pairs of classes with the same label."""
    sizes = {}
    for label in labels:
        sizes[label] = sizes.get(label, 0) + 1
    counts = [count_parted(labels, sizes, failing) for failing in failing_by]
    return counts.index(max(counts))


def built_suite(rig, shape, suite):
    """The tuple of the rows of the suite that is built on a suite."""
    need_rows(rig, shape, suite)
    rows = let_rows(rig)
    signs = signs_by(shape, rows, first_ones(rig, shape))
    failing_by = [[number for number, sign in enumerate(signs) if (sign >> place) & 1 == 1]
                  for place in range(len(rows))]
    built = list(suite)
    bits = let_bits(rig, suite)
    labels = first_equals(signs, bits)
    while labels != list(range(len(signs))):
        if len(built) == MOST_ROWS:
            raise TooGreat(MOST_ROWS)
        best = best_row(labels, failing_by)
        built.append(rows[best])
        bits = bits | (1 << best)
        labels = first_equals(signs, bits)
    return tuple(built)


def exchanges(rig, shape, suite, number):
    """The ascending tuple of the let rows that can stand for the row with a number."""
    need_rows(rig, shape, suite)
    need_number(number, 0, len(suite) - 1)
    rows = let_rows(rig)
    signs = signs_by(shape, rows, first_ones(rig, shape))
    labels = first_equals(signs, let_bits(rig, suite))
    rest = let_bits(rig, [*suite[:number], *suite[number + 1:]])
    return tuple([row for place, row in enumerate(rows) if first_equals(signs, rest | (1 << place)) == labels])


def least_by_count(rig, shape):
    """The least number of rows that there have to be, by the number of classes, for a suite that names the faults."""
    # The powers of two from many on begin with the one that many - 1 has as many figures as.
    return (len(classes(rig, shape)) - 1).bit_length()


def apart_pairs(rig, shape):
    """The tuple of the apart pairs that are taken in order."""
    firsts = first_ones(rig, shape)
    signs = signs_by(shape, let_rows(rig), firsts)
    pairs = []
    parting = 0
    for number, sign in enumerate(signs):
        for later in range(number + 1, len(signs)):
            if (sign ^ signs[later]) & parting == 0:
                pairs.append((firsts[number], firsts[later]))
                parting = parting | (sign ^ signs[later])
    return tuple(pairs)


def holds_pairs(rig, shape, pairs):
    """Whether a value is apart pairs."""
    if not isinstance(pairs, tuple):
        return False
    marks = let_marks(rig, shape)
    parted = 0
    for pair in pairs:
        if not is_tuple(pair, 2, 2) or not all([is_faults(rig, shape, marks, faults) for faults in pair]):
            return False
        parting = fault_marks(marks, pair[0]) ^ fault_marks(marks, pair[1])
        if parting == 0 or parting & parted != 0:
            return False
        parted = parted | parting
    return True


def check_apart(rig, shape, pairs):
    """How many apart pairs there are."""
    need_shape(rig, shape)
    if not holds_pairs(rig, shape, pairs):
        raise BadPaper("pairs")
    return len(pairs)
