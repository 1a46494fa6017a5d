"""Suites beside one another: what the outcomes of one tell of another, and what is lost without some rows."""

from rowsthatname.bits import bits_of, count_bits, mixed_bits, numbers_in, outcomes_of
from rowsthatname.errors import BadPaper
from rowsthatname.faults import first_ones, is_faults, is_outcomes, let_marks, need_heard, need_rows, need_suite
from rowsthatname.faults import signs_by
from rowsthatname.lean import is_needless
from rowsthatname.naming import close_pair, first_signs
from rowsthatname.papers import has_form, word_of
from rowsthatname.rigs import is_tuple, need_number

MOST_LOST = 5


def need_suites(rig, shape, suite, other):
    """Raises the error of the first argument that is refused."""
    need_rows(rig, shape, suite)
    need_suite(rig, other)


def both_signs(rig, shape, suite, other):
    """The outcomes of both suites, as a pair of bits, by the first one of each class of alike faults."""
    return list(zip(first_signs(rig, shape, suite), first_signs(rig, shape, other)))


def first_clash(pairs):
    """The numbers of two pairs with the same first part and unlike second ones, or None."""
    first = {}
    for number, (sign, far) in enumerate(pairs):
        ahead = first.setdefault(sign, number)
        if pairs[ahead][1] != far:
            return ahead, number
    return None


def settles(rig, shape, suite, other):
    """Whether the outcomes of a suite settle those of another one."""
    need_suites(rig, shape, suite, other)
    return first_clash(both_signs(rig, shape, suite, other)) is None


def table_of(rig, shape, suite, other):
    """The ascending tuple of the pairs of outcomes of both suites that some faults have."""
    pairs = [(outcomes_of(sign, len(suite)), outcomes_of(far, len(other)))
             for sign, far in both_signs(rig, shape, suite, other)]
    return tuple(sorted(set(pairs)))


def settle_paper(rig, shape, suite, other):
    """A paper on whether the outcomes of a suite settle those of another one."""
    need_suites(rig, shape, suite, other)
    clash = first_clash(both_signs(rig, shape, suite, other))
    if clash is None:
        return "settles", table_of(rig, shape, suite, other)
    firsts = first_ones(rig, shape)
    return "hides", firsts[clash[0]], firsts[clash[1]]


def is_sides(suite, other, value):
    """Whether a value is a pair of outcomes of both suites."""
    return is_tuple(value, 2, 2) and is_outcomes(suite, value[0]) and is_outcomes(other, value[1])


def holds_settles(rig, shape, suite, other, told):
    """Whether these are all pairs of outcomes that some faults have, no two with the same outcomes of a suite."""
    table = table_of(rig, shape, suite, other)
    if not isinstance(told, tuple) or not all([is_sides(suite, other, pair) for pair in told]):
        return False
    return told == table and first_clash(table) is None


def holds_hides(rig, shape, suite, other, told):
    """Whether these are two faults with the same outcomes by a suite, and unlike ones by another."""
    marks = let_marks(rig, shape)
    if not all([is_faults(rig, shape, marks, faults) for faults in told]):
        return False
    near, near_too = signs_by(shape, suite, told)
    far, far_too = signs_by(shape, other, told)
    return near == near_too and far != far_too


def check_settle(rig, shape, suite, other, paper):
    """The word of a paper on whether the outcomes of a suite settle those of another one."""
    need_suites(rig, shape, suite, other)
    if has_form(paper, "settles", 2):
        return word_of("settles", holds_settles(rig, shape, suite, other, paper[1]))
    if has_form(paper, "hides", 3):
        return word_of("hides", holds_hides(rig, shape, suite, other, paper[1:]))
    raise BadPaper("form")


def translated(rig, shape, suite, other, heard):
    """The outcomes of another suite by all faults that give those heard, None where they are not the same; or None."""
    need_suites(rig, shape, suite, other)
    need_heard(suite, heard)
    pairs = both_signs(rig, shape, suite, other)
    far = [there for sign, there in pairs if sign == bits_of(heard)]
    if len(far) == 0:
        return None
    mixed = outcomes_of(mixed_bits(far), len(other))
    return tuple([None if unsure else outcome for unsure, outcome in zip(mixed, outcomes_of(far[0], len(other)))])


def settled_rows(rig, shape, suite):
    """The ascending tuple of the numbers of the rows that are settled by the outcomes of all rows ahead."""
    need_rows(rig, shape, suite)
    signs = first_signs(rig, shape, suite)
    # What the rows ahead settle is needless behind them.
    return tuple([number for number in range(len(suite)) if is_needless(signs, (2 << number) - 1, number)])


def kinds(rig, shape, suite):
    """How many unlike outcomes of a suite faults can have."""
    need_rows(rig, shape, suite)
    return len(set(first_signs(rig, shape, suite)))


def weak_rows(rig, shape, suite):
    """The tuple of the numbers of the fewest rows without which a suite does not name the faults, or None."""
    need_rows(rig, shape, suite)
    signs = first_signs(rig, shape, suite)
    least = None
    for number, sign in enumerate(signs):
        for later in range(number):
            differing = sign ^ signs[later]
            if least is None or is_weaker(differing, least):
                least = differing
    return None if least is None else numbers_in(least)


def is_weaker(rows, others):
    """Whether rows are fewer than others, or as many and ahead of them; both as bits."""
    many = count_bits(rows)
    many_others = count_bits(others)
    if many != many_others:
        return many < many_others
    # Of as many numbers those are ahead that have the first number which not both have.
    unlike = rows ^ others
    return unlike & -unlike & rows != 0


def names_without(rig, shape, suite, lost):
    """Whether a suite names the faults whichever so many of its rows are left out."""
    need_rows(rig, shape, suite)
    need_number(lost, 0, MOST_LOST)
    return close_pair(first_signs(rig, shape, suite), lost) is None
