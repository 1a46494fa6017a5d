"""The document's words once more, as plainly and slowly as can be: what the tests compare the program with."""

from functools import lru_cache
from itertools import combinations, product


def product_of(values):
    """How many rows there are, let or not."""
    many = 1
    for value in values:
        many *= value
    return many


def lots_of(values, size):
    """All lots of so many settings, whether a let row meets them or not."""
    settings = [(knob, value) for knob in range(len(values)) for value in range(values[knob])]
    return [lot for lot in combinations(settings, size) if len({knob for knob, _ in lot}) == size]


def is_meeting(row, lot):
    """Whether a row meets a lot."""
    for knob, value in lot:
        if row[knob] != value:
            return False
    return True


@lru_cache(maxsize=None)
def let_rows(rig):
    """All let rows."""
    values, barred = rig
    rows = product(*[range(many) for many in values])
    return tuple(row for row in rows if not any(is_meeting(row, lot) for lot in barred))


@lru_cache(maxsize=None)
def can_fail(rig, size):
    """All lots that can fail."""
    rows = let_rows(rig)
    return [lot for lot in lots_of(rig[0], size) if any(is_meeting(row, lot) for row in rows)]


@lru_cache(maxsize=None)
def all_faults(rig, shape):
    """All faults."""
    size, most = shape
    lots = can_fail(rig, size)
    return tuple(sorted(faults for many in range(most + 1) for faults in combinations(sorted(lots), many)))


def is_failing(row, faults):
    """Whether a row fails by faults."""
    for lot in faults:
        if is_meeting(row, lot):
            return True
    return False


@lru_cache(maxsize=None)
def failing_rows(rig, faults):
    """All let rows that fail by faults."""
    return tuple(row for row in let_rows(rig) if is_failing(row, faults))


def parting_rows(rig, one, other):
    """All let rows that part two faults."""
    return tuple(sorted(set(failing_rows(rig, one)) ^ set(failing_rows(rig, other))))


@lru_cache(maxsize=None)
def classes(rig, shape):
    """All classes of alike faults."""
    groups = {}
    for faults in all_faults(rig, shape):
        groups.setdefault(frozenset(failing_rows(rig, faults)), []).append(faults)
    return tuple(sorted(tuple(sorted(group)) for group in groups.values()))


def outcomes(faults, suite):
    """The outcomes of a suite."""
    return tuple(is_failing(row, faults) for row in suite)


def differing(one, other):
    """In how many places two outcomes differ."""
    return sum(left != right for left, right in zip(one, other))


def is_alike(rig, one, other):
    """Whether two faults are alike."""
    return failing_rows(rig, one) == failing_rows(rig, other)


@lru_cache(maxsize=None)
def firsts(rig, shape):
    """The first one of each class."""
    return tuple(min(group) for group in classes(rig, shape))


@lru_cache(maxsize=None)
def unlike_pairs(rig, shape):
    """All pairs of two faults that are not alike, the lesser one first."""
    return [pair for pair in combinations(all_faults(rig, shape), 2) if not is_alike(rig, *pair)]


def differences(rig, shape, suite):
    """A dict of all pairs of unlike faults: in how many places their outcomes differ."""
    return differences_by(rig, shape, tuple(suite))


@lru_cache(maxsize=None)
def differences_by(rig, shape, suite):
    """The same of a suite that is a tuple."""
    by = {faults: outcomes(faults, suite) for faults in all_faults(rig, shape)}
    return {(one, other): differing(by[one], by[other]) for one, other in unlike_pairs(rig, shape)}


def margin(rig, shape, suite):
    """The least of all differences, or None."""
    return min(differences(rig, shape, suite).values(), default=None)


def bears(rig, shape, suite, wrong):
    """Whether a suite bears so many wrong outcomes."""
    return all(many > 2 * wrong for many in differences(rig, shape, suite).values())


def mixed_pair(rig, shape, suite, wrong):
    """The least pair of two first ones that are too close, or None."""
    pairs = [pair for pair, many in differences(rig, shape, suite).items()
             if many <= 2 * wrong and set(pair) <= set(firsts(rig, shape))]
    return min(pairs, default=None)


def mixed_lots(rig, shape, suite):
    """The first ones with the same outcomes."""
    groups = {}
    for faults in firsts(rig, shape):
        groups.setdefault(outcomes(faults, suite), set()).add(faults)
    return tuple(sorted(tuple(sorted(group)) for group in groups.values() if len(group) >= 2))


def fitting(rig, shape, suite, heard, wrong):
    """All faults that fit."""
    return tuple(faults for faults in all_faults(rig, shape) if differing(outcomes(faults, suite), heard) <= wrong)


def fitting_classes(rig, shape, suite, heard, wrong):
    """All classes of faults that fit."""
    fit = set(fitting(rig, shape, suite, heard, wrong))
    return tuple(group for group in classes(rig, shape) if set(group) <= fit)


def verdict(rig, shape, suite, heard, wrong, lot):
    """What was heard of a lot that can fail, or None."""
    having = {lot in faults for faults in fitting(rig, shape, suite, heard, wrong)}
    return {frozenset(): None, frozenset({True}): "fails", frozenset({False}): "good"}.get(frozenset(having), "may")


def wrong_rows(rig, shape, suite, heard, wrong):
    """The numbers of the rows that were heard wrong by all faults that fit, or None."""
    fit = fitting(rig, shape, suite, heard, wrong)
    if not fit:
        return None
    return tuple(number for number, row in enumerate(suite)
                 if {is_failing(row, faults) for faults in fit} == {not heard[number]})


@lru_cache(maxsize=None)
def cases(rig, shape):
    """All cases."""
    return sorted((lot, faults) for lot in can_fail(rig, shape[0])
                  for faults in all_faults(rig, shape) if lot not in faults)


def showing(suite, lot, faults):
    """The numbers of the rows that show a lot beside faults."""
    return [number for number, row in enumerate(suite) if is_meeting(row, lot) and not is_failing(row, faults)]


def hidden_cases(rig, shape, suite, wrong):
    """All cases such that at most 2 wrong rows show the lot."""
    return [case for case in cases(rig, shape) if len(showing(suite, *case)) <= 2 * wrong]


def suspects(rig, shape, suite, heard, wrong):
    """All lots of whose rows at most so many were heard to be good."""
    return tuple(sorted(lot for lot in can_fail(rig, shape[0]) if wrong >= sum(
        is_meeting(row, lot) and not failed for row, failed in zip(suite, heard))))


@lru_cache(maxsize=None)
def asked(rig, size):
    """All asked lots."""
    rows = let_rows(rig)
    return sorted(lot for lot in lots_of(rig[0], size) if any(is_meeting(row, lot) for row in rows))


def lacking(rig, size, suite):
    """All asked lots that no row meets."""
    return tuple(lot for lot in asked(rig, size) if not any(is_meeting(row, lot) for row in suite))


def least_met(rig, size, suite):
    """How many rows meet an asked lot at least, or None."""
    return min((sum(is_meeting(row, lot) for row in suite) for lot in asked(rig, size)), default=None)


def greedy_cover(rig, size):
    """The rows that are taken greedily, however many."""
    taken = []
    while lacking(rig, size, taken):
        wanted = lacking(rig, size, taken)
        most = max(sum(is_meeting(row, lot) for lot in wanted) for row in let_rows(rig))
        taken.append([row for row in let_rows(rig) if sum(is_meeting(row, lot) for lot in wanted) == most][0])
    return tuple(taken)


def names(rig, shape, rows):
    """Whether rows, perhaps more than 40, name the faults."""
    told = [outcomes(faults, rows) for faults in firsts(rig, shape)]
    return len(set(told)) == len(told)


def fewest_further(rig, shape, suite, most):
    """How many further rows are the fewest that are enough, all of them tried; None if they are more than most."""
    for many in range(most + 1):
        for rows in combinations(let_rows(rig), many):
            if names(rig, shape, tuple(suite) + rows):
                return many
    return None


def partition(rig, shape, suite):
    """Which faults have the same outcomes."""
    groups = {}
    for faults in all_faults(rig, shape):
        groups.setdefault(outcomes(faults, suite), set()).add(faults)
    return {frozenset(group) for group in groups.values()}


def needless_rows(rig, shape, suite):
    """The numbers of the needless rows."""
    suite = tuple(suite)
    whole = partition(rig, shape, suite)
    return tuple(number for number in range(len(suite))
                 if partition(rig, shape, suite[:number] + suite[number + 1:]) == whole)


def lean_suite(rig, shape, suite):
    """What is left if each row that is needless is left out at once, from the first one on."""
    left, number = tuple(suite), 0
    while number < len(left):
        if number in needless_rows(rig, shape, left):
            left = left[:number] + left[number + 1:]
        else:
            number += 1
    return left


def idle_rows(rig, shape, suite):
    """All let rows that are idle behind a suite."""
    whole = partition(rig, shape, suite)
    return tuple(row for row in let_rows(rig) if partition(rig, shape, tuple(suite) + (row,)) == whole)


def halves(rig, shape, suite, heard, row):
    """By how many of the classes that fit a row fails, and by how many it does not."""
    fit = [faults for faults in firsts(rig, shape) if outcomes(faults, suite) == heard]
    return sum(is_failing(row, faults) for faults in fit), sum(not is_failing(row, faults) for faults in fit)


def mixed_count(rig, shape, suite):
    """How many pairs of classes have the same outcomes."""
    told = [outcomes(faults, suite) for faults in firsts(rig, shape)]
    return sum(one == other for one, other in combinations(told, 2))


def built_suite(rig, shape, suite):
    """The suite that is built on a suite, however long."""
    built = tuple(suite)
    while not names(rig, shape, built):
        counts = [mixed_count(rig, shape, built + (row,)) for row in let_rows(rig)]
        built += (let_rows(rig)[counts.index(min(counts))],)
    return built


def exchanges(rig, shape, suite, number):
    """All let rows that can stand for a row."""
    suite = tuple(suite)
    whole = partition(rig, shape, suite)
    return tuple(row for row in let_rows(rig)
                 if partition(rig, shape, suite[:number] + (row,) + suite[number + 1:]) == whole)


def apart_pairs(rig, shape):
    """The apart pairs that are taken in order."""
    taken, parted = [], set()
    for one, other in combinations(firsts(rig, shape), 2):
        if not parted & set(parting_rows(rig, one, other)):
            taken.append((one, other))
            parted |= set(parting_rows(rig, one, other))
    return tuple(taken)
