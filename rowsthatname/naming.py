"""Whether a suite names the faults, also with wrong outcomes."""

from rowsthatname.bits import count_bits, outcomes_of
from rowsthatname.errors import BadPaper
from rowsthatname.faults import first_ones, is_faults, is_outcomes, let_marks
from rowsthatname.faults import need_rows, need_wrong, parting_rows, signs_by
from rowsthatname.papers import has_form, word_of
from rowsthatname.rigs import is_let, meets_any


def first_signs(rig, shape, suite):
    """The outcomes of a suite, as bits, by the first one of each class of alike faults."""
    return signs_by(shape, suite, first_ones(rig, shape))


def same_signs(signs):
    """The lists of the numbers of equal signs, as their first ones stand."""
    groups = {}
    for number, sign in enumerate(signs):
        groups.setdefault(sign, []).append(number)
    return list(groups.values())


def close_pair(signs, most):
    """The numbers of the first two signs that differ in at most so many places; None if there are no two."""
    for number, sign in enumerate(signs):
        for later in range(number + 1, len(signs)):
            if count_bits(sign ^ signs[later]) <= most:
                return number, later
    return None


def names(rig, shape, suite):
    """Whether a suite names the faults."""
    need_rows(rig, shape, suite)
    signs = first_signs(rig, shape, suite)
    return len(set(signs)) == len(signs)


def bears(rig, shape, suite, wrong):
    """Whether a suite bears so many wrong outcomes."""
    need_rows(rig, shape, suite)
    need_wrong(wrong)
    return close_pair(first_signs(rig, shape, suite), 2 * wrong) is None


def mixed_pair(rig, shape, suite, wrong):
    """The least pair of first ones of which the outcomes differ in at most 2 wrong places, or None."""
    need_rows(rig, shape, suite)
    need_wrong(wrong)
    firsts = first_ones(rig, shape)
    pair = close_pair(signs_by(shape, suite, firsts), 2 * wrong)
    if pair is None:
        return None
    return firsts[pair[0]], firsts[pair[1]]


def margin(rig, shape, suite):
    """In how few places the outcomes of two faults differ that are not alike; None if there are no two."""
    need_rows(rig, shape, suite)
    signs = first_signs(rig, shape, suite)
    least = None
    for number, sign in enumerate(signs):
        for later in range(number):
            differing = count_bits(sign ^ signs[later])
            if least is None or differing < least:
                least = differing
    return least


def mixed_lots(rig, shape, suite):
    """The ascending tuple of the tuples of two or more first ones that have the same outcomes."""
    need_rows(rig, shape, suite)
    firsts = first_ones(rig, shape)
    groups = same_signs(signs_by(shape, suite, firsts))
    return tuple([tuple([firsts[number] for number in group]) for group in groups if len(group) > 1])


def name_paper(rig, shape, suite, wrong):
    """A paper on whether a suite bears so many wrong outcomes."""
    pair = mixed_pair(rig, shape, suite, wrong)
    if pair is None:
        signs = first_signs(rig, shape, suite)
        return "bears", tuple([outcomes_of(sign, len(suite)) for sign in signs])
    one, other = pair
    return "mixed", one, other, parting_rows(rig, shape, one, other)[0]


def holds_bears(rig, shape, suite, wrong, told):
    """Whether these are the outcomes by all first ones, and differ in enough places."""
    signs = first_signs(rig, shape, suite)
    if not isinstance(told, tuple) or not all([is_outcomes(suite, sign) for sign in told]):
        return False
    sides = [outcomes_of(sign, len(suite)) for sign in signs]
    return list(told) == sides and close_pair(signs, 2 * wrong) is None


def holds_mixed(rig, shape, suite, wrong, told):
    """Whether these are two faults with outcomes that are too close, and a let row that parts them."""
    marks = let_marks(rig, shape)
    one, other, row = told
    if not is_faults(rig, shape, marks, one) or not is_faults(rig, shape, marks, other):
        return False
    if not is_let(rig, row):
        return False
    one_sign, other_sign = signs_by(shape, suite, [one, other])
    return count_bits(one_sign ^ other_sign) <= 2 * wrong and meets_any(row, one) != meets_any(row, other)


def check_names(rig, shape, suite, wrong, paper):
    """The word of a paper on whether a suite bears so many wrong outcomes."""
    need_rows(rig, shape, suite)
    need_wrong(wrong)
    if has_form(paper, "bears", 2):
        return word_of("bears", holds_bears(rig, shape, suite, wrong, paper[1]))
    if has_form(paper, "mixed", 4):
        return word_of("mixed", holds_mixed(rig, shape, suite, wrong, paper[1:]))
    raise BadPaper("form")
