"""The document's words once more, as plainly and slowly as can be: what the tests compare the program with."""

from functools import lru_cache
from itertools import combinations, product


def product_of(values):
    """How many rows there are, let or not."""
    many = 1
    for value in values:
        many *= value
    return many


def lots_of(values, size):
    """All lots of so many settings, whether a let row meets them or not."""
    settings = [(knob, value) for knob in range(len(values)) for value in range(values[knob])]
    return [lot for lot in combinations(settings, size) if len({knob for knob, _ in lot}) == size]


def is_meeting(row, lot):
    """Whether a row meets a lot."""
    return set(lot) <= set(enumerate(row))


@lru_cache(maxsize=None)
def let_rows(rig):
    """All let rows."""
    values, barred = rig
    rows = product(*[range(many) for many in values])
    return tuple(row for row in rows if not any(is_meeting(row, lot) for lot in barred))


@lru_cache(maxsize=None)
def can_fail(rig, size):
    """All lots that can fail."""
    rows = let_rows(rig)
    return [lot for lot in lots_of(rig[0], size) if any(is_meeting(row, lot) for row in rows)]


@lru_cache(maxsize=None)
def all_faults(rig, shape):
    """All faults."""
    size, most = shape
    lots = can_fail(rig, size)
    return tuple(sorted(faults for many in range(most + 1) for faults in combinations(sorted(lots), many)))


def is_failing(row, faults):
    """Whether a row fails by faults."""
    return any(is_meeting(row, lot) for lot in faults)


@lru_cache(maxsize=None)
def failing_rows(rig, faults):
    """All let rows that fail by faults."""
    return tuple(row for row in let_rows(rig) if is_failing(row, faults))


def parting_rows(rig, one, other):
    """All let rows that part two faults."""
    return tuple(sorted(set(failing_rows(rig, one)) ^ set(failing_rows(rig, other))))


@lru_cache(maxsize=None)
def classes(rig, shape):
    """All classes of alike faults."""
    groups = {}
    for faults in all_faults(rig, shape):
        groups.setdefault(frozenset(failing_rows(rig, faults)), []).append(faults)
    return tuple(sorted(tuple(sorted(group)) for group in groups.values()))
