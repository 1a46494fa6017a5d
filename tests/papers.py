"""Which papers hold, by the document's words, and papers with one thing changed."""

from rowsthatname.errors import BadPaper
from tests import plain

STRANGE = (None, True, False, 0, 1, 2, -1, 10 ** 999, "", "a", "form", b"", (), [], {}, (None,), [()], {0: 0}, set(),
           ((0, 0),), (((0, 0),),), (True,), (1,), (0, 1), Ellipsis)

# Things of every kind that are no paper at all.
NO_PAPERS = STRANGE + ("bears", ("bears",), ("mixed", (), ()), ("mixed", ()), ("bears", (), (), ()), ["bears", ()],
                       ("detects",), ("hidden", ()), ("detects", (), ()), ("hidden", (), (), ()), ["hidden", (), ()],
                       ("BEARS", ()), ("bears ", ()), (b"bears", ()), (("bears",), ()), ((), "bears"),
                       ("covers",), ("lacks", ()), ("covers", (), ()), ["covers", ()], ("rows",), ("tree",),
                       ["rows", ()], ["tree", ()], ("rows", (), ()), ("tree", (), ()), ("form", ()), (None, ()),
                       ("form", (), ()), ("form", (), (), ()), ((), ()), ((), (), ()), ((), (), (), ()),
                       ("bar",), ("bar", (), ()), ["bar", ()], ("walk",), ("walk", (), ()), ["walk", ()], ("cut",),
                       ("cut", (), ()), ["cut", ()], ("settles",), ("settles", (), ()), ["settles", ()],
                       ("hides",), ("hides", ()), ("hides", (), (), ()), ["hides", (), ()], b"walk", "hides",
                       {"bears": ()}, {0: "bears", 1: ()}, (True, ()), (0, (), ()), ("fails", ()), ("tree", (), (), ()))


def changes(value):
    """What differs from a value in one thing, at any depth."""
    told = exactly(value)
    return (other for other in perhaps_changes(value) if exactly(other) != told)


def perhaps_changes(value):
    """What differs from a value in one thing at most."""
    yield from STRANGE
    if isinstance(value, bool):
        yield int(value)
        yield not value
    elif isinstance(value, int):
        yield from (value + 1, value - 1, str(value), (value,))
        if value in (0, 1):
            yield bool(value)
    elif isinstance(value, str):
        yield from (value.upper(), value + " ", value.encode(), (value,))
    elif isinstance(value, tuple):
        yield from changes_of_tuple(value)


def changes_of_tuple(value):
    """What differs from a tuple in one thing: another kind, another order, one more, one less, one otherwise."""
    yield list(value)
    yield dict(enumerate(value))
    yield value[::-1]
    yield value + (None,)
    for number, item in enumerate(value):
        yield value[:number] + value[number + 1:]
        yield value[:number] + (item,) + value[number:]
        yield value[:number] + value[number + 1:number + 2] + (item,) + value[number + 2:]
        for other in perhaps_changes(item):
            yield value[:number] + (other,) + value[number + 1:]


def exactly(value):
    """A text that tells a value with the kinds of all its parts."""
    if isinstance(value, (tuple, list)):
        return value.__class__.__name__ + "(" + " ".join(exactly(item) for item in value) + ")"
    return f"{value.__class__.__name__}:{value!r}"


def is_one_of(value, those):
    """Whether a value is one of some things, and of the same kind throughout."""
    return exactly(value) in {exactly(thing) for thing in those}


class Judging:
    """Beside a TestCase: whether papers are taken, and refused, as the document says.

    check is the function that takes them; forms has, for each word, of how many things
    such a paper is, and what tells whether they are as the document says.
    """

    def assert_bad(self, *given):
        """That what is passed, the paper last, is refused with the word behind it."""
        *passed, word = given
        with self.assertRaises(BadPaper) as caught:
            self.check(*passed)
        self.assertEqual(caught.exception.word, word, passed[-1])

    def assert_judged(self, *given):
        """That the paper, the last thing passed, is judged as it should be; whether it is taken."""
        *passed, paper = given
        word = self.word_of(paper)
        if word is not None and self.forms[word][1](*passed, *paper[1:]):
            self.assertEqual(self.check(*given), word)
            return True
        self.assert_bad(*given, word or "form")
        return False

    def word_of(self, paper):
        """The word of a paper that has one of the forms, or None."""
        if not isinstance(paper, tuple) or not paper or not isinstance(paper[0], str):
            return None
        many, _ = self.forms.get(paper[0], (None, None))
        return paper[0] if many == len(paper) else None


def is_bears(rig, shape, suite, wrong, signs):
    """Whether these are the outcomes side by side, and a suite bears so many wrong ones."""
    told = tuple(plain.outcomes(faults, suite) for faults in plain.firsts(rig, shape))
    return plain.bears(rig, shape, suite, wrong) and exactly(signs) == exactly(told)


def is_mixed(rig, shape, suite, wrong, one, other, row):
    """Whether these are two faults with outcomes that are too close, and a row that parts them."""
    every = plain.all_faults(rig, shape)
    return (is_one_of(one, every) and is_one_of(other, every)
            and plain.differing(plain.outcomes(one, suite), plain.outcomes(other, suite)) <= 2 * wrong
            and is_one_of(row, plain.parting_rows(rig, one, other)))


def is_detects(rig, shape, suite, wrong, numbers):
    """Whether these are enough rows that show the lot, for each case."""
    every = plain.cases(rig, shape)
    if not isinstance(numbers, tuple) or len(numbers) != len(every):
        return False
    for told, (lot, faults) in zip(numbers, every):
        if not isinstance(told, tuple) or not all(type(number) is int for number in told):
            return False
        if list(told) != sorted(set(told)) or not set(told) <= set(plain.showing(suite, lot, faults)):
            return False
        if not len(told) > 2 * wrong:
            return False
    return True


def is_hidden(rig, shape, suite, wrong, lot, faults):
    """Whether these are a case such that too few rows show the lot."""
    return is_one_of((lot, faults), plain.hidden_cases(rig, shape, suite, wrong))


def is_covers(rig, size, suite, numbers):
    """Whether these are, for each asked lot, the number of a row that meets it."""
    lots = plain.asked(rig, size)
    return (isinstance(numbers, tuple) and len(numbers) == len(lots)
            and all(type(number) is int and 0 <= number < len(suite) and plain.is_meeting(suite[number], lot)
                    for number, lot in zip(numbers, lots)))


def is_lacks(rig, size, suite, lot, row):
    """Whether these are an asked lot that no row meets, and a let row that does."""
    return (is_one_of(lot, plain.lacking(rig, size, suite)) and is_one_of(row, plain.let_rows(rig))
            and plain.is_meeting(row, lot))


def is_rows(rig, shape, suite, most, rows):
    """Whether these are at most so many let rows, behind which the suite names the faults."""
    return (isinstance(rows, tuple) and len(rows) <= most
            and all(is_one_of(row, plain.let_rows(rig)) for row in rows)
            and plain.names(rig, shape, tuple(suite) + rows))


def is_tree(rig, shape, suite, depth, tree):
    """Whether this is a tree of a depth beside a suite."""
    if not isinstance(tree, tuple) or len(tree) != 3:
        return False
    one, other, trees = tree
    every = plain.all_faults(rig, shape)
    if not is_one_of(one, every) or not is_one_of(other, every) or plain.is_alike(rig, one, other):
        return False
    if plain.outcomes(one, suite) != plain.outcomes(other, suite):
        return False
    rows = plain.parting_rows(rig, one, other) if depth else ()
    return (isinstance(trees, tuple) and len(trees) == len(rows)
            and all(is_tree(rig, shape, tuple(suite) + (row,), depth - 1, below) for row, below in zip(rows, trees)))


def is_pairs(rig, shape, pairs):
    """Whether these are apart pairs."""
    every = plain.all_faults(rig, shape)
    if not isinstance(pairs, tuple) or not all(isinstance(pair, tuple) and len(pair) == 2 for pair in pairs):
        return False
    if not all(is_one_of(faults, every) for pair in pairs for faults in pair):
        return False
    parting = [set(plain.parting_rows(rig, *pair)) for pair in pairs]
    return all(parting) and sum(len(rows) for rows in parting) == len(set().union(*parting))


def is_next_tree(rig, left, depth, tree):
    """Whether this is a tree of at most so many next rows for some faults."""
    if tree is None:
        return len(left) <= 1
    if depth == 0 or not isinstance(tree, tuple) or len(tree) != 3:
        return False
    row, good, fails = tree
    if not is_one_of(row, plain.let_rows(rig)):
        return False
    return (is_next_tree(rig, [faults for faults in left if not plain.is_failing(row, faults)], depth - 1, good)
            and is_next_tree(rig, [faults for faults in left if plain.is_failing(row, faults)], depth - 1, fails))


def is_game_tree(rig, shape, log, depth, tree):
    """Whether this is a tree of at most so many next rows for what is left."""
    return is_next_tree(rig, plain.left_ones(rig, shape, log), depth, tree)


def is_bar(rig, shape, log, depth, bar):
    """Whether this is a bar of so many next rows behind a log."""
    if not isinstance(bar, tuple) or len(bar) != 2 or not all(isinstance(part, tuple) for part in bar):
        return False
    faults, bars = bar
    fit = plain.left_faults(rig, shape, log)
    if not all(is_one_of(one, fit) for one in faults) or list(faults) != sorted(set(faults)):
        return False
    if any(plain.is_alike(rig, one, other) for one in faults for other in faults if one != other):
        return False
    if not bars:
        return len(faults) > (1, 2, 4, 8)[depth]
    if depth == 0 or not all(is_bar(rig, shape, log, depth - 1, below) for below in bars):
        return False
    return (all(set(below[0]) <= set(faults) for below in bars)
            and all(any(len({plain.is_failing(row, one) for one in below[0]}) == 1 for below in bars)
                    for row in plain.let_rows(rig)))


def is_walk(rig, one, other, rows):
    """Whether these are let rows from the one to the other, each a step from the one ahead."""
    return (isinstance(rows, tuple) and all(is_one_of(row, plain.let_rows(rig)) for row in rows)
            and rows[:1] == (one,) and rows[-1:] == (other,)
            and all(plain.is_step(row, later) for row, later in zip(rows, rows[1:])))


def is_cut(rig, one, other, rows):
    """Whether these are let rows from which no step leads away, the one among them, the other not."""
    let = plain.let_rows(rig)
    return (isinstance(rows, tuple) and all(is_one_of(row, let) for row in rows)
            and list(rows) == sorted(set(rows)) and one in rows and other not in rows
            and not any(plain.is_step(row, near) for row in rows for near in let if near not in rows))


def is_settles(rig, shape, suite, other, table):
    """Whether these are all pairs of outcomes that some faults have, no two with the same ones of a suite."""
    pairs = tuple(plain.both_outcomes(rig, shape, suite, other))
    return exactly(table) == exactly(pairs) and len({sign for sign, _ in pairs}) == len(pairs)


def is_hides(rig, shape, suite, other, one, one_more):
    """Whether these are two faults with the same outcomes by a suite, and unlike ones by another."""
    every = plain.all_faults(rig, shape)
    return (is_one_of(one, every) and is_one_of(one_more, every)
            and plain.outcomes(one, suite) == plain.outcomes(one_more, suite)
            and plain.outcomes(one, other) != plain.outcomes(one_more, other))
