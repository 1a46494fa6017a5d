"""Rows that are put behind a suite so that it names the faults."""

from rowsthatname.bits import count_bits, numbers_in
from rowsthatname.errors import BadPaper, TooGreat
from rowsthatname.faults import fault_marks, first_ones, is_faults, let_bits, let_marks, need_rows, signs_by
from rowsthatname.naming import same_signs
from rowsthatname.papers import has_form, word_of
from rowsthatname.rigs import is_let, is_tuple, let_rows, need_number

MOST_FURTHER = 3
MOST_LET_ROWS = 36


def need_most(rig, shape, suite, most):
    """Raises the error of the first argument that is refused."""
    need_rows(rig, shape, suite)
    need_number(most, 0, MOST_FURTHER)


def mixed_groups(signs, bits):
    """The lists of the numbers of two or more signs that are the same in some places."""
    return [group for group in same_signs([sign & bits for sign in signs]) if len(group) > 1]


def pair_to_part(signs, groups):
    """The first two numbers of one of the groups, the ones that the fewest rows part."""
    counts = [count_bits(signs[group[0]] ^ signs[group[1]]) for group in groups]
    group = groups[counts.index(min(counts))]
    return group[0], group[1]


def naming_rows(signs, bits, most):
    """Numbers of at most so many rows that tell apart, with those in bits, all signs; None if there are none."""
    groups = mixed_groups(signs, bits)
    if len(groups) == 0:
        return ()
    # Each row has two outcomes, so a group that is too great cannot be told apart.
    if max([len(group) for group in groups]) > 1 << most:
        return None
    one, other = pair_to_part(signs, groups)
    for number in numbers_in(signs[one] ^ signs[other]):
        rest = naming_rows(signs, bits | (1 << number), most - 1)
        if rest is not None:
            return (number,) + rest
    return None


def further_rows(rig, shape, suite, most):
    """A tuple of the fewest further rows by which a suite names the faults, if at most so many, or None."""
    need_most(rig, shape, suite, most)
    rows = let_rows(rig)
    if len(rows) > MOST_LET_ROWS:
        raise TooGreat(MOST_LET_ROWS)
    signs = signs_by(shape, rows, first_ones(rig, shape))
    for many in range(most + 1):
        numbers = naming_rows(signs, let_bits(rig, suite), many)
        if numbers is not None:
            return tuple([rows[number] for number in numbers])
    return None


def fewest_further(rig, shape, suite, most):
    """How many further rows are the fewest by which a suite names the faults, if at most so many, or None."""
    rows = further_rows(rig, shape, suite, most)
    return None if rows is None else len(rows)


def tree_beside(firsts, signs, bits, depth):
    """A tree of a depth beside the rows in bits, where no so many further rows are enough."""
    one, other = pair_to_part(signs, mixed_groups(signs, bits))
    if depth == 0:
        return firsts[one], firsts[other], ()
    numbers = numbers_in(signs[one] ^ signs[other])
    trees = [tree_beside(firsts, signs, bits | (1 << number), depth - 1) for number in numbers]
    return firsts[one], firsts[other], tuple(trees)


def further_paper(rig, shape, suite, most):
    """A paper on whether at most so many further rows are enough."""
    rows = further_rows(rig, shape, suite, most)
    if rows is not None:
        return "rows", rows
    firsts = first_ones(rig, shape)
    return "tree", tree_beside(firsts, signs_by(shape, let_rows(rig), firsts), let_bits(rig, suite), most)


def holds_rows(rig, shape, suite, most, told):
    """Whether these are at most so many let rows, behind which a suite names the faults."""
    firsts = first_ones(rig, shape)
    if not is_tuple(told, 0, most) or not all([is_let(rig, row) for row in told]):
        return False
    signs = signs_by(shape, [*suite, *told], firsts)
    return len(set(signs)) == len(signs)


def holds_tree(rig, shape, marks, bits, depth, told):
    """Whether this is a tree of a depth beside the rows in bits, with the marks of the lots that can fail."""
    if not is_tuple(told, 3, 3):
        return False
    one, other, trees = told
    if not is_faults(rig, shape, marks, one) or not is_faults(rig, shape, marks, other):
        return False
    parting = fault_marks(marks, one) ^ fault_marks(marks, other)
    if parting == 0 or parting & bits != 0:
        return False
    numbers = numbers_in(parting) if depth > 0 else ()
    if not is_tuple(trees, len(numbers), len(numbers)):
        return False
    return all([holds_tree(rig, shape, marks, bits | (1 << number), depth - 1, tree)
                for number, tree in zip(numbers, trees)])


def check_further(rig, shape, suite, most, paper):
    """The word of a paper on whether at most so many further rows are enough."""
    need_most(rig, shape, suite, most)
    if has_form(paper, "rows", 2):
        return word_of("rows", holds_rows(rig, shape, suite, most, paper[1]))
    if has_form(paper, "tree", 2):
        return word_of("tree", holds_tree(rig, shape, let_marks(rig, shape), let_bits(rig, suite), most, paper[1]))
    raise BadPaper("form")
