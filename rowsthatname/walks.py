"""Let rows by their numbers, and steps that lead from one to another."""

from rowsthatname.errors import BadPaper
from rowsthatname.papers import has_form, word_of
from rowsthatname.rigs import is_let, let_rows, need_number, need_row


def many_rows(rig):
    """How many rows are let."""
    return len(let_rows(rig))


def row_at(rig, number):
    """The let row with a number."""
    rows = let_rows(rig)
    return rows[need_number(number, 0, len(rows) - 1)]


def number_of(rig, row):
    """The number of a let row."""
    need_row(rig, row)
    return let_rows(rig).index(row)


def steps_from(rig, row):
    """The let rows to which a step leads from a row."""
    values, _ = rig
    near = [row[:knob] + (value,) + row[knob + 1:] for knob, many in enumerate(values)
            for value in range(many) if value != row[knob]]
    return [other for other in near if is_let(rig, other)]


def rows_ahead(rig, one):
    """For each row that steps reach from one, nearest first, the row ahead of it on a shortest way; one has None."""
    ahead = {one: None}
    reached = [one]
    turn = 0
    while turn < len(reached):
        row = reached[turn]
        near = [other for other in steps_from(rig, row) if other not in ahead]
        for other in near:
            ahead[other] = row
        reached.extend(near)
        turn += 1
    return ahead


def island_of(rig, row):
    """The island of a row."""
    return tuple(sorted(list(rows_ahead(rig, row))))


def islands(rig):
    """The ascending tuple of all islands."""
    seen = {}
    found = []
    for row in let_rows(rig):
        if row not in seen:
            island = island_of(rig, row)
            found.append(island)
            for other in island:
                seen[other] = True
    return tuple(found)


def shortest_walk(rig, one, other):
    """A walk with as few rows as can be from the one let row to the other, or None."""
    need_row(rig, one)
    need_row(rig, other)
    ahead = rows_ahead(rig, one)
    if other not in ahead:
        return None
    back = [other]
    while ahead[back[-1]] is not None:
        back.append(ahead[back[-1]])
    return tuple(back[::-1])


def steps_between(rig, one, other):
    """How many steps lead from the one let row to the other at least, or None."""
    walk = shortest_walk(rig, one, other)
    return None if walk is None else len(walk) - 1


def walk_paper(rig, one, other):
    """A paper on whether steps lead from the one let row to the other."""
    walk = shortest_walk(rig, one, other)
    if walk is None:
        return "cut", island_of(rig, one)
    return "walk", walk


def are_let_rows(rig, value):
    """Whether a value is a tuple of one or more let rows."""
    if not isinstance(value, tuple) or len(value) == 0:
        return False
    return all([is_let(rig, row) for row in value])


def is_step(one, other):
    """Whether one row differs from another in just one knob."""
    return len([knob for knob, value in enumerate(one) if value != other[knob]]) == 1


def holds_walk(rig, one, other, told):
    """Whether these are let rows from the one to the other, each a step from the one ahead."""
    if not are_let_rows(rig, told) or told[0] != one or told[-1] != other:
        return False
    return all([is_step(row, later) for row, later in zip(told, told[1:])])


def holds_cut(rig, one, other, told):
    """Whether these are ascending let rows, the one among them, the other not, from which no step leads away."""
    if not are_let_rows(rig, told) or list(told) != sorted(set(told)):
        return False
    inside = {row: True for row in told}
    if one not in inside or other in inside:
        return False
    return all([near in inside for row in told for near in steps_from(rig, row)])


def check_walk(rig, one, other, paper):
    """The word of a paper on whether steps lead from the one let row to the other."""
    need_row(rig, one)
    need_row(rig, other)
    if has_form(paper, "walk", 2):
        return word_of("walk", holds_walk(rig, one, other, paper[1]))
    if has_form(paper, "cut", 2):
        return word_of("cut", holds_cut(rig, one, other, paper[1]))
    raise BadPaper("form")
