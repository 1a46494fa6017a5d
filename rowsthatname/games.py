"""Games of next rows: whether so many are enough to find the faults, each chosen by the outcomes ahead."""

from rowsthatname.bits import bits_of, count_bits, mixed_bits, numbers_in
from rowsthatname.errors import BadPaper
from rowsthatname.faults import fault_marks, is_faults, let_marks, signs_by
from rowsthatname.logs import left_ones, need_runs, outcomes_run, rows_run
from rowsthatname.papers import has_form, word_of
from rowsthatname.rigs import is_let, is_tuple, let_rows, meets_any, need_number

MOST_NEXT = 3


def need_depth(rig, shape, log, depth):
    """Raises the error of the first argument that is refused."""
    need_runs(rig, shape, log)
    need_number(depth, 0, MOST_NEXT)


def failing_by_rows(rig, shape, those):
    """For each let row the numbers of those faults by which it fails, as bits."""
    rows = let_rows(rig)
    signs = signs_by(shape, rows, those)
    return [bits_of([(sign >> number) & 1 == 1 for sign in signs]) for number in range(len(rows))]


def halves_of(ways, group):
    """The unlike parts of a group of faults that fail by some row, in the order of the rows; all as bits."""
    return list({failing & group: True for failing in ways})


def is_enough(ways, group, depth):
    """Whether so many next rows are enough for a group of faults."""
    many = count_bits(group)
    if many <= 1:
        return True
    # Each row has two outcomes, so a group that is too great cannot be told apart.
    return many <= 1 << depth and best_half(ways, group, depth) is not None


def best_half(ways, group, depth):
    """The part of a group that fails by the first row behind which depth - 1 more are enough, or None."""
    halves = halves_of(ways, group)
    for failing in halves:
        if is_enough(halves, failing, depth - 1) and is_enough(halves, group & ~failing, depth - 1):
            return failing
    return None


def tree_for(rows, ways, group, depth):
    """A tree of so many next rows for a group for which they are enough."""
    if count_bits(group) <= 1:
        return None
    failing = best_half(ways, group, depth)
    row = rows[[way & group for way in ways].index(failing)]
    good = tree_for(rows, ways, group & ~failing, depth - 1)
    fails = tree_for(rows, ways, failing, depth - 1)
    return row, good, fails


def bar_for(left, ways, group, depth):
    """A bar of so many next rows for a group for which they are not enough."""
    faults = tuple([left[number] for number in numbers_in(group)])
    if len(faults) > 1 << depth:
        return faults, ()
    halves = halves_of(ways, group)
    hard = [group & ~failing if is_enough(halves, failing, depth - 1) else failing for failing in halves]
    return faults, tuple([bar_for(left, halves, part, depth - 1) for part in halves_of(hard, group)])


def game_paper(rig, shape, log, depth):
    """A paper on whether so many next rows are enough behind a log."""
    need_depth(rig, shape, log, depth)
    left = left_ones(rig, shape, log)
    if len(left) > 1 << depth:
        return "bar", (left, ())
    ways = failing_by_rows(rig, shape, left)
    group = (1 << len(left)) - 1
    if is_enough(ways, group, depth):
        return "tree", tree_for(let_rows(rig), ways, group, depth)
    return "bar", bar_for(left, ways, group, depth)


def fewest_next(rig, shape, log, most):
    """The fewest next rows that are enough behind a log; None if they are more than most."""
    need_depth(rig, shape, log, most)
    left = left_ones(rig, shape, log)
    if len(left) > 1 << most:
        return None
    ways = failing_by_rows(rig, shape, left)
    group = (1 << len(left)) - 1
    enough = [many for many in range(most + 1) if is_enough(ways, group, many)]
    return min(enough, default=None)


def holds_tree(rig, left, depth, told):
    """Whether this is a tree of at most so many next rows for the faults that are left."""
    if told is None:
        return len(left) <= 1
    if depth == 0 or not is_tuple(told, 3, 3):
        return False
    row, good, fails = told
    if not is_let(rig, row):
        return False
    passing = [faults for faults in left if not meets_any(row, faults)]
    failing = [faults for faults in left if meets_any(row, faults)]
    return holds_tree(rig, passing, depth - 1, good) and holds_tree(rig, failing, depth - 1, fails)


def is_ascending_faults(rig, shape, marks, value):
    """Whether a value is an ascending tuple of faults, with the marks of the lots that can fail."""
    if not isinstance(value, tuple) or not all([is_faults(rig, shape, marks, faults) for faults in value]):
        return False
    return list(value) == sorted(set(value))


def holds_bar(rig, shape, marks, depth, told):
    """Whether this is a bar of so many next rows for some faults, if these fit."""
    if not is_tuple(told, 2, 2):
        return False
    faults, bars = told
    if not is_ascending_faults(rig, shape, marks, faults) or not isinstance(bars, tuple):
        return False
    if len(set([fault_marks(marks, one) for one in faults])) < len(faults):
        return False
    if len(bars) == 0:
        return len(faults) > 1 << depth
    if depth == 0 or not all([holds_bar(rig, shape, marks, depth - 1, bar) for bar in bars]):
        return False
    return all([one in faults for part, _ in bars for one in part]) and leaves_no_row(marks, bars)


def leaves_no_row(marks, bars):
    """Whether by each let row all faults of some one of the bars have the same outcome."""
    # Each let row meets some lot that can fail, so these are all of them.
    rows = fault_marks(marks, list(marks))
    for faults, _ in bars:
        rows = rows & mixed_bits([fault_marks(marks, one) for one in faults])
    return rows == 0


def holds_left_bar(rig, shape, log, depth, told):
    """Whether this is a bar of so many next rows for faults that fit a log."""
    if not holds_bar(rig, shape, let_marks(rig, shape), depth, told):
        return False
    # The faults of the bars further down are among these.
    signs = signs_by(shape, rows_run(log), told[0])
    return all([sign == bits_of(outcomes_run(log)) for sign in signs])


def check_game(rig, shape, log, depth, paper):
    """The word of a paper on whether so many next rows are enough behind a log."""
    need_depth(rig, shape, log, depth)
    if has_form(paper, "tree", 2):
        return word_of("tree", holds_tree(rig, left_ones(rig, shape, log), depth, paper[1]))
    if has_form(paper, "bar", 2):
        return word_of("bar", holds_left_bar(rig, shape, log, depth, paper[1]))
    raise BadPaper("form")
