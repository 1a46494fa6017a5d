"""Which papers hold, by the document's words, and papers with one thing changed."""

from tests import plain

STRANGE = (None, True, False, 0, 1, 2, -1, 10 ** 999, "", "a", "form", b"", (), [], {}, (None,), [()], {0: 0}, set(),
           ((0, 0),), (((0, 0),),), (True,), (1,), (0, 1), Ellipsis)

# Things of every kind that are no paper at all.
NO_PAPERS = STRANGE + ("bears", ("bears",), ("mixed", (), ()), ("mixed", ()), ("bears", (), (), ()), ["bears", ()],
                       ("detects",), ("hidden", ()), ("detects", (), ()), ("hidden", (), (), ()), ["hidden", (), ()],
                       ("BEARS", ()), ("bears ", ()), (b"bears", ()), (("bears",), ()), ((), "bears"),
                       ("covers",), ("lacks", ()), ("covers", (), ()), ["covers", ()], ("rows",), ("tree",),
                       ["rows", ()], ["tree", ()], ("rows", (), ()), ("tree", (), ()), ("form", ()), (None, ()),
                       ("form", (), ()), ("form", (), (), ()), ((), ()), ((), (), ()), ((), (), (), ()),
                       {"bears": ()}, {0: "bears", 1: ()}, (True, ()), (0, (), ()), ("fails", ()), ("tree", (), (), ()))


def changes(value):
    """What differs from a value in one thing, at any depth."""
    told = exactly(value)
    return (other for other in perhaps_changes(value) if exactly(other) != told)


def perhaps_changes(value):
    """What differs from a value in one thing at most."""
    yield from STRANGE
    if isinstance(value, bool):
        yield int(value)
        yield not value
    elif isinstance(value, int):
        yield from (value + 1, value - 1, str(value), (value,))
        if value in (0, 1):
            yield bool(value)
    elif isinstance(value, str):
        yield from (value.upper(), value + " ", value.encode(), (value,))
    elif isinstance(value, tuple):
        yield from changes_of_tuple(value)


def changes_of_tuple(value):
    """What differs from a tuple in one thing: another kind, another order, one more, one less, one otherwise."""
    yield list(value)
    yield dict(enumerate(value))
    yield value[::-1]
    yield value + (None,)
    for number, item in enumerate(value):
        yield value[:number] + value[number + 1:]
        yield value[:number] + (item,) + value[number:]
        yield value[:number] + value[number + 1:number + 2] + (item,) + value[number + 2:]
        for other in perhaps_changes(item):
            yield value[:number] + (other,) + value[number + 1:]


def exactly(value):
    """A text that tells a value with the kinds of all its parts."""
    if isinstance(value, (tuple, list)):
        return value.__class__.__name__ + "(" + " ".join(exactly(item) for item in value) + ")"
    return f"{value.__class__.__name__}:{value!r}"


def is_one_of(value, those):
    """Whether a value is one of some things, and of the same kind throughout."""
    return exactly(value) in {exactly(thing) for thing in those}


def form_of(paper, forms):
    """The word of a paper that has one of the forms, or None."""
    if not isinstance(paper, tuple) or not paper or not isinstance(paper[0], str):
        return None
    return paper[0] if forms.get(paper[0]) == len(paper) else None


def is_bears(rig, shape, suite, wrong, signs):
    """Whether these are the outcomes side by side, and a suite bears so many wrong ones."""
    told = tuple(plain.outcomes(faults, suite) for faults in plain.firsts(rig, shape))
    return plain.bears(rig, shape, suite, wrong) and exactly(signs) == exactly(told)


def is_mixed(rig, shape, suite, wrong, one, other, row):
    """Whether these are two faults with outcomes that are too close, and a row that parts them."""
    every = plain.all_faults(rig, shape)
    return (is_one_of(one, every) and is_one_of(other, every)
            and plain.differing(plain.outcomes(one, suite), plain.outcomes(other, suite)) <= 2 * wrong
            and is_one_of(row, plain.parting_rows(rig, one, other)))


def is_detects(rig, shape, suite, wrong, numbers):
    """Whether these are enough rows that show the lot, for each case."""
    every = plain.cases(rig, shape)
    if not isinstance(numbers, tuple) or len(numbers) != len(every):
        return False
    for told, (lot, faults) in zip(numbers, every):
        if not isinstance(told, tuple) or not all(type(number) is int for number in told):
            return False
        if list(told) != sorted(set(told)) or not set(told) <= set(plain.showing(suite, lot, faults)):
            return False
        if not len(told) > 2 * wrong:
            return False
    return True


def is_hidden(rig, shape, suite, wrong, lot, faults):
    """Whether these are a case such that too few rows show the lot."""
    return is_one_of((lot, faults), plain.hidden_cases(rig, shape, suite, wrong))
