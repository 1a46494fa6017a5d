"""The document's words once more, as plainly and slowly as can be: what the tests compare the program with."""

from functools import lru_cache
from itertools import combinations, product


def product_of(values):
    """How many rows there are, let or not."""
    many = 1
    for value in values:
        many *= value
    return many


def lots_of(values, size):
    """All lots of so many settings, whether a let row meets them or not."""
    settings = [(knob, value) for knob in range(len(values)) for value in range(values[knob])]
    return [lot for lot in combinations(settings, size) if len({knob for knob, _ in lot}) == size]


def is_meeting(row, lot):
    """Whether a row meets a lot."""
    for knob, value in lot:
        if row[knob] != value:
            return False
    return True


@lru_cache(maxsize=None)
def let_rows(rig):
    """All let rows."""
    values, barred = rig
    rows = product(*[range(many) for many in values])
    return tuple(row for row in rows if not any(is_meeting(row, lot) for lot in barred))


@lru_cache(maxsize=None)
def can_fail(rig, size):
    """All lots that can fail."""
    rows = let_rows(rig)
    return [lot for lot in lots_of(rig[0], size) if any(is_meeting(row, lot) for row in rows)]


@lru_cache(maxsize=None)
def all_faults(rig, shape):
    """All faults."""
    size, most = shape
    lots = can_fail(rig, size)
    return tuple(sorted(faults for many in range(most + 1) for faults in combinations(sorted(lots), many)))


def is_failing(row, faults):
    """Whether a row fails by faults."""
    for lot in faults:
        if is_meeting(row, lot):
            return True
    return False


@lru_cache(maxsize=None)
def failing_rows(rig, faults):
    """All let rows that fail by faults."""
    return tuple(row for row in let_rows(rig) if is_failing(row, faults))


def parting_rows(rig, one, other):
    """All let rows that part two faults."""
    return tuple(sorted(set(failing_rows(rig, one)) ^ set(failing_rows(rig, other))))


@lru_cache(maxsize=None)
def classes(rig, shape):
    """All classes of alike faults."""
    groups = {}
    for faults in all_faults(rig, shape):
        groups.setdefault(frozenset(failing_rows(rig, faults)), []).append(faults)
    return tuple(sorted(tuple(sorted(group)) for group in groups.values()))


def outcomes(faults, suite):
    """The outcomes of a suite."""
    return tuple(is_failing(row, faults) for row in suite)


def differing(one, other):
    """In how many places two outcomes differ."""
    return sum(left != right for left, right in zip(one, other))


def is_alike(rig, one, other):
    """Whether two faults are alike."""
    return failing_rows(rig, one) == failing_rows(rig, other)


@lru_cache(maxsize=None)
def firsts(rig, shape):
    """The first one of each class."""
    return tuple(min(group) for group in classes(rig, shape))


@lru_cache(maxsize=None)
def unlike_pairs(rig, shape):
    """All pairs of two faults that are not alike, the lesser one first."""
    return [pair for pair in combinations(all_faults(rig, shape), 2) if not is_alike(rig, *pair)]


def differences(rig, shape, suite):
    """A dict of all pairs of unlike faults: in how many places their outcomes differ."""
    return differences_by(rig, shape, tuple(suite))


@lru_cache(maxsize=None)
def differences_by(rig, shape, suite):
    """The same of a suite that is a tuple."""
    by = {faults: outcomes(faults, suite) for faults in all_faults(rig, shape)}
    return {(one, other): differing(by[one], by[other]) for one, other in unlike_pairs(rig, shape)}


def margin(rig, shape, suite):
    """The least of all differences, or None."""
    return min(differences(rig, shape, suite).values(), default=None)


def bears(rig, shape, suite, wrong):
    """Whether a suite bears so many wrong outcomes."""
    return all(many > 2 * wrong for many in differences(rig, shape, suite).values())


def mixed_pair(rig, shape, suite, wrong):
    """The least pair of two first ones that are too close, or None."""
    pairs = [pair for pair, many in differences(rig, shape, suite).items()
             if many <= 2 * wrong and set(pair) <= set(firsts(rig, shape))]
    return min(pairs, default=None)


def mixed_lots(rig, shape, suite):
    """The first ones with the same outcomes."""
    groups = {}
    for faults in firsts(rig, shape):
        groups.setdefault(outcomes(faults, suite), set()).add(faults)
    return tuple(sorted(tuple(sorted(group)) for group in groups.values() if len(group) >= 2))


def fitting(rig, shape, suite, heard, wrong):
    """All faults that fit."""
    return tuple(faults for faults in all_faults(rig, shape) if differing(outcomes(faults, suite), heard) <= wrong)


def fitting_classes(rig, shape, suite, heard, wrong):
    """All classes of faults that fit."""
    fit = set(fitting(rig, shape, suite, heard, wrong))
    return tuple(group for group in classes(rig, shape) if set(group) <= fit)


def verdict(rig, shape, suite, heard, wrong, lot):
    """What was heard of a lot that can fail, or None."""
    having = {lot in faults for faults in fitting(rig, shape, suite, heard, wrong)}
    return {frozenset(): None, frozenset({True}): "fails", frozenset({False}): "good"}.get(frozenset(having), "may")


def wrong_rows(rig, shape, suite, heard, wrong):
    """The numbers of the rows that were heard wrong by all faults that fit, or None."""
    fit = fitting(rig, shape, suite, heard, wrong)
    if not fit:
        return None
    return tuple(number for number, row in enumerate(suite)
                 if {is_failing(row, faults) for faults in fit} == {not heard[number]})


@lru_cache(maxsize=None)
def cases(rig, shape):
    """All cases."""
    return sorted((lot, faults) for lot in can_fail(rig, shape[0])
                  for faults in all_faults(rig, shape) if lot not in faults)


def showing(suite, lot, faults):
    """The numbers of the rows that show a lot beside faults."""
    return [number for number, row in enumerate(suite) if is_meeting(row, lot) and not is_failing(row, faults)]


def hidden_cases(rig, shape, suite, wrong):
    """All cases such that at most 2 wrong rows show the lot."""
    return [case for case in cases(rig, shape) if len(showing(suite, *case)) <= 2 * wrong]


def suspects(rig, shape, suite, heard, wrong):
    """All lots of whose rows at most so many were heard to be good."""
    return tuple(sorted(lot for lot in can_fail(rig, shape[0]) if wrong >= sum(
        is_meeting(row, lot) and not failed for row, failed in zip(suite, heard))))


@lru_cache(maxsize=None)
def asked(rig, size):
    """All asked lots."""
    rows = let_rows(rig)
    return sorted(lot for lot in lots_of(rig[0], size) if any(is_meeting(row, lot) for row in rows))


def lacking(rig, size, suite):
    """All asked lots that no row meets."""
    return tuple(lot for lot in asked(rig, size) if not any(is_meeting(row, lot) for row in suite))


def least_met(rig, size, suite):
    """How many rows meet an asked lot at least, or None."""
    return min((sum(is_meeting(row, lot) for row in suite) for lot in asked(rig, size)), default=None)


def greedy_cover(rig, size):
    """The rows that are taken greedily, however many."""
    taken = []
    while lacking(rig, size, taken):
        wanted = lacking(rig, size, taken)
        most = max(sum(is_meeting(row, lot) for lot in wanted) for row in let_rows(rig))
        taken.append([row for row in let_rows(rig) if sum(is_meeting(row, lot) for lot in wanted) == most][0])
    return tuple(taken)


def names(rig, shape, rows):
    """Whether rows, perhaps more than 40, name the faults."""
    told = [outcomes(faults, rows) for faults in firsts(rig, shape)]
    return len(set(told)) == len(told)


def fewest_further(rig, shape, suite, most):
    """How many further rows are the fewest that are enough, all of them tried; None if they are more than most."""
    for many in range(most + 1):
        for rows in combinations(let_rows(rig), many):
            if names(rig, shape, tuple(suite) + rows):
                return many
    return None


def partition(rig, shape, suite):
    """Which faults have the same outcomes."""
    groups = {}
    for faults in all_faults(rig, shape):
        groups.setdefault(outcomes(faults, suite), set()).add(faults)
    return {frozenset(group) for group in groups.values()}


def needless_rows(rig, shape, suite):
    """The numbers of the needless rows."""
    suite = tuple(suite)
    whole = partition(rig, shape, suite)
    return tuple(number for number in range(len(suite))
                 if partition(rig, shape, suite[:number] + suite[number + 1:]) == whole)


def lean_suite(rig, shape, suite):
    """What is left if each row that is needless is left out at once, from the first one on."""
    left, number = tuple(suite), 0
    while number < len(left):
        if number in needless_rows(rig, shape, left):
            left = left[:number] + left[number + 1:]
        else:
            number += 1
    return left


def idle_rows(rig, shape, suite):
    """All let rows that are idle behind a suite."""
    whole = partition(rig, shape, suite)
    return tuple(row for row in let_rows(rig) if partition(rig, shape, tuple(suite) + (row,)) == whole)


def halves(rig, shape, suite, heard, row):
    """By how many of the classes that fit a row fails, and by how many it does not."""
    fit = [faults for faults in firsts(rig, shape) if outcomes(faults, suite) == heard]
    return sum(is_failing(row, faults) for faults in fit), sum(not is_failing(row, faults) for faults in fit)


def mixed_count(rig, shape, suite):
    """How many pairs of classes have the same outcomes."""
    told = [outcomes(faults, suite) for faults in firsts(rig, shape)]
    return sum(one == other for one, other in combinations(told, 2))


def built_suite(rig, shape, suite):
    """The suite that is built on a suite, however long."""
    built = tuple(suite)
    while not names(rig, shape, built):
        counts = [mixed_count(rig, shape, built + (row,)) for row in let_rows(rig)]
        built += (let_rows(rig)[counts.index(min(counts))],)
    return built


def exchanges(rig, shape, suite, number):
    """All let rows that can stand for a row."""
    suite = tuple(suite)
    whole = partition(rig, shape, suite)
    return tuple(row for row in let_rows(rig)
                 if partition(rig, shape, suite[:number] + (row,) + suite[number + 1:]) == whole)


def apart_pairs(rig, shape):
    """The apart pairs that are taken in order."""
    taken, parted = [], set()
    for one, other in combinations(firsts(rig, shape), 2):
        if not parted & set(parting_rows(rig, one, other)):
            taken.append((one, other))
            parted |= set(parting_rows(rig, one, other))
    return tuple(taken)


def left_faults(rig, shape, log):
    """All faults that fit a log."""
    return tuple(faults for faults in all_faults(rig, shape)
                 if all(is_failing(row, faults) == outcome for row, outcome in log))


def left_ones(rig, shape, log):
    """The first one of each class of those that fit."""
    return tuple(faults for faults in left_faults(rig, shape, log) if faults in firsts(rig, shape))


def first_false(rig, shape, log):
    """The number of the first pair up to which no faults fit, or None."""
    for number in range(len(log)):
        if not left_faults(rig, shape, log[:number + 1]):
            return number
    return None


def foretold(rig, shape, log, row):
    """The outcome of a row by all faults that fit, or None."""
    told = {is_failing(row, faults) for faults in left_faults(rig, shape, log)}
    return {frozenset({True}): True, frozenset({False}): False}.get(frozenset(told))


def open_rows(rig, shape, log):
    """All rows by which some faults that fit fail, and others do not."""
    fit = left_faults(rig, shape, log)
    return tuple(row for row in let_rows(rig) if len({is_failing(row, faults) for faults in fit}) == 2)


@lru_cache(maxsize=None)
def is_enough(rig, left, depth):
    """Whether there is a tree of at most so many next rows for some faults."""
    if len(left) <= 1:
        return True
    if depth == 0:
        return False
    halves = {tuple(faults for faults in left if is_failing(row, faults)) for row in let_rows(rig)}
    return any(is_enough(rig, failing, depth - 1) and is_enough(rig, without(left, failing), depth - 1)
               for failing in halves)


def without(things, those):
    """What is left of things without those."""
    return tuple(thing for thing in things if thing not in those)


def fewest_next(rig, shape, log, most):
    """The fewest next rows that are enough, or None."""
    enough = [many for many in range(most + 1) if is_enough(rig, left_ones(rig, shape, log), many)]
    return min(enough, default=None)


def is_step(one, other):
    """Whether two rows differ in just one knob."""
    return differing(one, other) == 1


@lru_cache(maxsize=None)
def steps_to(rig, one):
    """A dict of all rows that steps reach from a row: how many steps lead there at least."""
    steps = {one: 0}
    while True:
        near = {row for row in let_rows(rig) if row not in steps and any(is_step(row, other) for other in steps)}
        if not near:
            return steps
        steps.update({row: max(steps.values()) + 1 for row in near})


def islands(rig):
    """All islands."""
    return tuple(sorted({tuple(sorted(steps_to(rig, row))) for row in let_rows(rig)}))


def both_outcomes(rig, shape, suite, other):
    """All pairs of the outcomes of two suites that some faults have."""
    return sorted({(outcomes(faults, suite), outcomes(faults, other)) for faults in all_faults(rig, shape)})


def settles(rig, shape, suite, other):
    """Whether any two faults with the same outcomes of a suite have the same outcomes of another one."""
    pairs = both_outcomes(rig, shape, suite, other)
    return all(far == far_too for sign, far in pairs for sign_too, far_too in pairs if sign == sign_too)


def translated(rig, shape, suite, other, heard):
    """The outcomes of another suite by all faults that give what was heard, or None."""
    fit = [faults for faults in all_faults(rig, shape) if outcomes(faults, suite) == heard]
    if not fit:
        return None
    told = [{is_failing(row, faults) for faults in fit} for row in other]
    return tuple(None if len(those) == 2 else True in those for those in told)


def settled_rows(rig, shape, suite):
    """The numbers of the rows that are settled by the ones ahead."""
    return tuple(number for number in range(len(suite))
                 if settles(rig, shape, suite[:number], suite[number:number + 1]))


def without_rows(suite, numbers):
    """What is left of a suite without the rows with some numbers."""
    return tuple(row for number, row in enumerate(suite) if number not in numbers)


def weak_rows(rig, shape, suite):
    """The fewest rows without which a suite does not name the faults, all of them tried, or None."""
    for many in range(len(suite) + 1):
        for numbers in combinations(range(len(suite)), many):
            if not names(rig, shape, without_rows(suite, numbers)):
                return numbers
    return None


def names_without(rig, shape, suite, lost):
    """Whether a suite names the faults whichever rows are left out, all of them tried."""
    return all(names(rig, shape, without_rows(suite, numbers))
               for numbers in combinations(range(len(suite)), min(lost, len(suite))))
