"""Logs of rows that were run, the faults that fit them, and what these tell of other rows."""

from rowsthatname.bits import mixed_bits, numbers_in
from rowsthatname.errors import BadLog
from rowsthatname.faults import MOST_ROWS, first_ones, is_outcome, need_shape, signs_by
from rowsthatname.hearing import fitting, fitting_classes, missed_rows
from rowsthatname.rigs import is_let, is_tuple, let_rows, meets_any, need_rig, need_row


def is_run(rig, value):
    """Whether a value is a pair of a let row and an outcome."""
    if not is_tuple(value, 2, 2):
        return False
    row, outcome = value
    return is_let(rig, row) and is_outcome(outcome)


def need_log(rig, log):
    """The log itself."""
    need_rig(rig)
    if not isinstance(log, (list, tuple)) or len(log) > MOST_ROWS:
        raise BadLog(None)
    for number, run in enumerate(log):
        if not is_run(rig, run):
            raise BadLog(number)
    return log


def need_runs(rig, shape, log):
    """The log itself, of a rig and a shape."""
    need_shape(rig, shape)
    return need_log(rig, log)


def rows_run(log):
    """The rows of a log: a suite."""
    return tuple([row for row, _ in log])


def outcomes_run(log):
    """The outcomes of a log: outcomes of its rows."""
    return tuple([outcome for _, outcome in log])


def left_faults(rig, shape, log):
    """The ascending tuple of all faults that fit a log."""
    need_runs(rig, shape, log)
    return fitting(rig, shape, rows_run(log), outcomes_run(log), 0)


def left_ones(rig, shape, log):
    """The ascending tuple of what is left: the first one of each class of alike faults that fits a log."""
    need_runs(rig, shape, log)
    groups = fitting_classes(rig, shape, rows_run(log), outcomes_run(log), 0)
    return tuple([group[0] for group in groups])


def first_false(rig, shape, log):
    """The number of the first pair such that no faults fit a log up to it, or None."""
    need_runs(rig, shape, log)
    missed = missed_rows(shape, rows_run(log), outcomes_run(log), first_ones(rig, shape))
    if 0 in missed:
        return None
    # The lowest bit is the first row that some faults do not fit.
    return max([(rows & -rows).bit_length() - 1 for rows in missed])


def foretold(rig, shape, log, row):
    """The outcome of a row by all faults that fit a log; None if it is not the same by all, or if none fit."""
    need_runs(rig, shape, log)
    need_row(rig, row)
    told = [meets_any(row, faults) for faults in left_ones(rig, shape, log)]
    if len(set(told)) != 1:
        return None
    return told[0]


def open_rows(rig, shape, log):
    """The ascending tuple of all open rows behind a log."""
    left = left_ones(rig, shape, log)
    rows = let_rows(rig)
    numbers = numbers_in(mixed_bits(signs_by(shape, rows, left)))
    return tuple([rows[number] for number in numbers])
