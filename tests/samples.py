"""Rigs, values of wrong kinds, and rows of calls that the tests share."""

from functools import lru_cache
from random import Random

from tests import plain


def nested(depth):
    """A tuple that is nested so deep."""
    value = ()
    for _ in range(depth):
        value = (value,)
    return value


class Thing:
    """An object of no kind that the package knows."""


# What is no integer, no tuple of lots, no row, no rig, wherever it stands.
ODD = (None, True, False, 0, 1, -1, 10 ** 999, -10 ** 999, "", "a", "22", "0.0", b"", b"ab", b"\x00\x00",
       [], [0], [(0, 0)], [[0, 0]], {}, {0: 0}, {(0, 0): 0}, set(), {0}, frozenset(), range(2), nested(49),
       (None,), (None, None), ((None,), None), Thing(), Thing, len)

# What stands in the place of an integer, and is none.
NO_INTEGERS = (None, True, False, "", "1", "2", b"1", (), (1,), (2,), [], [2], {}, {2: 2}, set(), {2}, Thing())

OPEN_1 = ((3,), ())
OPEN_2 = ((2, 3), ())
OPEN_3 = ((2, 2, 2), ())
OPEN_5 = ((2, 2, 2, 2, 2), ())
WIDE = ((4, 4, 4, 4, 4), ())
BARRED_2 = ((2, 3), (((0, 0), (1, 2)), ((0, 1), (1, 0))))
BARRED_3 = ((2, 3, 2), (((0, 0), (1, 1)), ((0, 1), (1, 0), (2, 1)), ((1, 2),)))
SIX_BARRED = ((2, 2, 3), (((0, 0), (1, 0)), ((0, 0), (1, 1), (2, 0)), ((0, 0), (1, 1), (2, 1)),
                          ((0, 1), (1, 1)), ((0, 1), (2, 2)), ((1, 0), (2, 0))))
NONE_LET = ((2, 4), (((0, 0),), ((0, 1),)))
ONE_LET = ((2, 2), (((0, 0),), ((1, 0),)))

FIXED = (OPEN_1, OPEN_2, OPEN_3, OPEN_5, BARRED_2, BARRED_3, SIX_BARRED, NONE_LET, ONE_LET,
         ((2,), ()), ((4,), (((0, 3),),)), ((4, 4), (((0, 3), (1, 3)),)), ((3, 2, 4), ()),
         ((2, 2, 2, 2), (((0, 0), (1, 0), (2, 0)), ((0, 1), (3, 1)), ((2, 1),))),
         ((2, 3, 2, 2, 2), (((0, 1), (1, 2)), ((1, 0), (4, 0)), ((2, 1), (3, 1), (4, 1)))))


def drawn_rig(draw):
    """A rig of one to five knobs, as a seeded source draws it."""
    values = tuple(draw.choice((2, 2, 3, 4)) for _ in range(draw.randint(1, 5)))
    while plain.product_of(values) > 96:
        values = values[1:]
    lots = [lot for size in (1, 2, 3) for lot in plain.lots_of(values, size)]
    barred = draw.sample(lots, min(len(lots), draw.choice((0, 0, 1, 2, 4, 6))))
    return values, tuple(sorted(barred))


def drawn_rigs(many):
    """So many rigs, the same in every run."""
    draw = Random(2026)
    return tuple(drawn_rig(draw) for _ in range(many))


RIGS = FIXED + drawn_rigs(40)


def shapes_of(rig):
    """All shapes of a rig."""
    return [(size, most) for size in range(1, min(3, len(rig[0])) + 1) for most in (1, 2)]


@lru_cache(maxsize=None)
def small_cases():
    """All pairs of a sample rig and a shape of it that has at most 2,000 faults."""
    return [(rig, shape) for rig in RIGS for shape in shapes_of(rig)
            if len(plain.all_faults(rig, shape)) <= 2000]


@lru_cache(maxsize=None)
def tiny_cases():
    """All pairs of a sample rig and a shape of it that has at most 40 faults: few enough to look at all pairs."""
    return [(rig, shape) for rig, shape in small_cases() if len(plain.all_faults(rig, shape)) <= 40]


def suites_of(rig, many, most=12):
    """Some suites of a rig: none of the rows, all, and so many that a seeded source draws, some rows twice."""
    rows = plain.let_rows(rig)
    suites = [(), [], rows[:40], list((rows + rows)[:40]), rows[::-1][:3]]
    draw = Random(repr(rig))
    for number in range(many if rows else 0):
        drawn = [draw.choice(rows) for _ in range(draw.randint(1, most))]
        suites.append(drawn if number % 2 else tuple(drawn))
    return suites


def turned(outcomes, numbers):
    """Outcomes with those of some rows turned."""
    return tuple(outcome != (number in numbers) for number, outcome in enumerate(outcomes))


def logs_of(rig, shape, many, most=8):
    """Some logs of a rig and a shape, lists and tuples: empty ones, such that faults give, and such that none may."""
    rows = plain.let_rows(rig)
    every = plain.all_faults(rig, shape)
    draw = Random(repr((rig, shape)))
    logs = [(), []]
    for number in range(many if rows else 0):
        faults = draw.choice(every)
        drawn = [draw.choice(rows) for _ in range(draw.randint(1, most))]
        log = [(row, plain.is_failing(row, faults)) for row in drawn]
        if number % 3 == 2:
            log.append((drawn[0], draw.choice((True, False))))
            log.append((draw.choice(rows), draw.choice((True, False))))
        logs.append(log if number % 2 else tuple(log))
    return logs
