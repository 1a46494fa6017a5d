"""Suites that meet all lots of so many settings."""

from rowsthatname.bits import count_bits, numbers_in
from rowsthatname.errors import BadPaper, TooGreat
from rowsthatname.faults import MOST_ROWS, lot_marks, lots_met, need_shape, need_suite
from rowsthatname.papers import has_form, word_of
from rowsthatname.rigs import is_let, is_number, is_settings, is_tuple, let_rows, meets, need_number, need_rig


def need_size(rig, size):
    """The number of settings itself."""
    values, _ = need_rig(rig)
    return need_number(size, 1, len(values))


def asked_lots(rig, size):
    """The asked lots, ascending."""
    return sorted(list(lot_marks(let_rows(rig), size)))


def lacking(rig, size, suite):
    """The ascending tuple of the asked lots that no row of a suite meets."""
    need_size(rig, size)
    need_suite(rig, suite)
    met = lot_marks(suite, size)
    return tuple([lot for lot in asked_lots(rig, size) if lot not in met])


def is_cover(rig, size, suite):
    """Whether a suite is a cover of so many settings."""
    return len(lacking(rig, size, suite)) == 0


def strength(rig, suite):
    """The greatest number of settings of which a suite is a cover, 0 if there is none."""
    values, _ = need_rig(rig)
    sizes = [size for size in range(1, len(values) + 1) if is_cover(rig, size, suite)]
    return max(sizes, default=0)


def least_met(rig, size, suite):
    """How many rows of a suite meet an asked lot at least; None if there is no asked lot."""
    need_size(rig, size)
    need_suite(rig, suite)
    met = lot_marks(suite, size)
    return min([count_bits(met.get(lot, 0)) for lot in asked_lots(rig, size)], default=None)


def enough_settings(rig, shape):
    """The number of settings of which each cover names the faults, or None where that is not told."""
    size, most = need_shape(rig, shape)
    values, barred = rig
    if len(barred) > 0 or min(values) <= most:
        return None
    return min(size + most, len(values))


def cover_paper(rig, size, suite):
    """A paper on whether a suite is a cover of so many settings."""
    lots = lacking(rig, size, suite)
    if len(lots) > 0:
        rows = [row for row in let_rows(rig) if meets(row, lots[0])]
        return "lacks", lots[0], rows[0]
    met = lot_marks(suite, size)
    return "covers", tuple([numbers_in(met[lot])[0] for lot in asked_lots(rig, size)])


def holds_covers(rig, size, suite, told):
    """Whether these are, for each asked lot, the number of a row that meets it."""
    lots = asked_lots(rig, size)
    if not is_tuple(told, len(lots), len(lots)):
        return False
    last = len(suite) - 1
    return all([is_number(number, 0, last) and meets(suite[number], lot) for lot, number in zip(lots, told)])


def holds_lacks(rig, size, suite, lot, row):
    """Whether these are an asked lot that no row of a suite meets, and a let row that does."""
    values, _ = rig
    if not is_settings(values, lot, size, size) or not is_let(rig, row) or not meets(row, lot):
        return False
    return not any([meets(other, lot) for other in suite])


def check_cover(rig, size, suite, paper):
    """The word of a paper on whether a suite is a cover of so many settings."""
    need_size(rig, size)
    need_suite(rig, suite)
    if has_form(paper, "covers", 2):
        return word_of("covers", holds_covers(rig, size, suite, paper[1]))
    if has_form(paper, "lacks", 3):
        return word_of("lacks", holds_lacks(rig, size, suite, paper[1], paper[2]))
    raise BadPaper("form")


def greedy_cover(rig, size):
    """The tuple of the rows of the cover that is taken greedily."""
    need_size(rig, size)
    rows = let_rows(rig)
    lots_of_rows = [lots_met(row, size) for row in rows]
    many_asked = len(asked_lots(rig, size))
    met = {}
    taken = []
    while len(met) < many_asked:
        if len(taken) == MOST_ROWS:
            raise TooGreat(MOST_ROWS)
        counts = [len([lot for lot in lots if lot not in met]) for lots in lots_of_rows]
        best = counts.index(max(counts))
        taken.append(rows[best])
        for lot in lots_of_rows[best]:
            met[lot] = True
    return tuple(taken)
