"""Rows of a suite that are not needed, and rows that are best next."""

from rowsthatname.bits import numbers_in
from rowsthatname.errors import BadNumber
from rowsthatname.faults import first_ones, let_bits, need_heard, need_rows, signs_by
from rowsthatname.hearing import fitting_classes
from rowsthatname.naming import first_signs
from rowsthatname.rigs import is_let, let_rows, meets_any


def count_kinds(signs, bits):
    """How many unlike signs there are, just these bits looked at."""
    return len(set([sign & bits for sign in signs]))


def is_needless(signs, bits, number):
    """Whether the rows in bits tell alike without the one with a number."""
    # What tells less has fewer unlike outcomes, as fewer rows never tell more.
    return count_kinds(signs, bits & ~(1 << number)) == count_kinds(signs, bits)


def needless_rows(rig, shape, suite):
    """The ascending tuple of the numbers of the needless rows of a suite, each by itself."""
    need_rows(rig, shape, suite)
    signs = first_signs(rig, shape, suite)
    bits = (1 << len(suite)) - 1
    return tuple([number for number in range(len(suite)) if is_needless(signs, bits, number)])


def lean_suite(rig, shape, suite):
    """The tuple of the rows of the suite that is lean from a suite."""
    need_rows(rig, shape, suite)
    signs = first_signs(rig, shape, suite)
    bits = (1 << len(suite)) - 1
    for number in range(len(suite)):
        if is_needless(signs, bits, number):
            bits = bits & ~(1 << number)
    return tuple([suite[number] for number in numbers_in(bits)])


def idle_rows(rig, shape, suite):
    """The ascending tuple of the let rows that are idle behind a suite."""
    need_rows(rig, shape, suite)
    rows = let_rows(rig)
    signs = signs_by(shape, rows, first_ones(rig, shape))
    bits = let_bits(rig, suite)
    many = count_kinds(signs, bits)
    return tuple([row for number, row in enumerate(rows) if count_kinds(signs, bits | (1 << number)) == many])


def first_fitting(rig, shape, suite, heard):
    """The first one of each class of alike faults that fits outcomes."""
    return [group[0] for group in fitting_classes(rig, shape, suite, heard, 0)]


def greater_halves(rig, shape, fit):
    """For each let row how many of those faults are in the greater half by it."""
    rows = let_rows(rig)
    failing = [0] * len(rows)
    for sign in signs_by(shape, rows, fit):
        for number in numbers_in(sign):
            failing[number] += 1
    return [max(many, len(fit) - many) for many in failing]


def split_by(rig, shape, suite, heard, row):
    """A pair: by how many of the classes that fit a row fails, and by how many it does not."""
    need_rows(rig, shape, suite)
    need_heard(suite, heard)
    if not is_let(rig, row):
        raise BadNumber(row)
    fit = first_fitting(rig, shape, suite, heard)
    many = len([faults for faults in fit if meets_any(row, faults)])
    return many, len(fit) - many


def next_row(rig, shape, suite, heard):
    """The row that is best next, or None if at most one class fits."""
    fit = first_fitting(rig, shape, suite, heard)
    if len(fit) <= 1:
        return None
    halves = greater_halves(rig, shape, fit)
    return let_rows(rig)[halves.index(min(halves))]


def worst_after(rig, shape, suite, heard):
    """How many classes the greater half has by the row that is best next, or how many fit if that is at most one."""
    fit = first_fitting(rig, shape, suite, heard)
    if len(fit) <= 1:
        return len(fit)
    return min(greater_halves(rig, shape, fit))
