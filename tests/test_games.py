import unittest
from itertools import combinations, product

from rowsthatname.errors import BadLog, BadNumber, BadPaper, BadRig, BadShape, TooGreat
from rowsthatname.games import check_game, fewest_next, game_paper
from tests import plain
from tests.papers import NO_PAPERS, Judging, changes, is_bar, is_game_tree
from tests.samples import (BARRED_2, NO_INTEGERS, NONE_LET, ODD, ONE_LET, OPEN_1, OPEN_2, OPEN_3, OPEN_5, WIDE, logs_of,
                           small_cases, tiny_cases)

A, B, C = (((0, 0),),), (((0, 1),),), (((0, 2),),)
ALL = ((), A, B, C)
# A rig with eight classes of faults, of one setting as of three.
FOUR = ((2, 2, 2, 2), (((0, 0), (1, 0), (2, 0)), ((0, 1), (3, 1)), ((2, 1),)))


class Judged(Judging):
    """The papers of this part, and what takes them."""

    check = staticmethod(check_game)
    forms = {"tree": (2, is_game_tree), "bar": (2, is_bar)}


class ByHand(Judged, unittest.TestCase):

    def assert_good(self, *given):
        self.assertEqual(check_game(*given), given[-1][0])

    def test_fewest(self):
        self.assertEqual(fewest_next(OPEN_1, (1, 1), [], 3), 3)
        self.assertIsNone(fewest_next(OPEN_1, (1, 1), [], 2))
        self.assertEqual(fewest_next(OPEN_1, (1, 1), [((1,), False)], 3), 2)
        self.assertEqual(fewest_next(OPEN_1, (1, 1), [((1,), False)], 2), 2)
        self.assertIsNone(fewest_next(OPEN_1, (1, 1), [((1,), False)], 1))
        self.assertEqual(fewest_next(OPEN_1, (1, 1), [((1,), True)], 0), 0)
        self.assertEqual(fewest_next(OPEN_1, (1, 1), [((1,), True), ((1,), False)], 3), 0)
        self.assertIsNone(fewest_next(OPEN_2, (2, 2), [], 3))

    def test_trees(self):
        tree = ((0,), ((1,), ((2,), None, None), None), None)
        self.assert_good(OPEN_1, (1, 1), [], 3, ("tree", tree))
        self.assert_bad(OPEN_1, (1, 1), [], 2, ("tree", tree), "tree")
        self.assert_good(OPEN_1, (1, 1), [((0,), False)], 2, ("tree", tree[1]))
        self.assert_good(OPEN_1, (1, 1), (((0,), False), ((1,), False)), 1, ("tree", ((2,), None, None)))
        self.assert_good(OPEN_1, (1, 1), [((0,), True)], 0, ("tree", None))
        self.assert_bad(OPEN_1, (1, 1), [], 0, ("tree", None), "tree")
        self.assert_bad(OPEN_1, (1, 1), [], 3, ("tree", None), "tree")
        # Good and failing are not mixed up.
        self.assert_bad(OPEN_1, (1, 1), [], 3, ("tree", ((0,), None, ((1,), ((2,), None, None), None))), "tree")
        # Other rows do as well, also such that part nothing, where there is room for them.
        self.assert_good(OPEN_1, (1, 1), [], 3, ("tree", ((2,), ((0,), ((1,), None, None), None), None)))
        self.assert_good(OPEN_1, (1, 1), [((0,), False), ((1,), False)], 2,
                         ("tree", ((0,), ((2,), None, None), None)))
        self.assert_bad(OPEN_1, (1, 1), [((0,), False), ((1,), False)], 1, ("tree", ((0,), None, None)), "tree")
        self.assert_bad(OPEN_1, (1, 1), [((0,), False), ((1,), False)], 1, ("tree", ((3,), None, None)), "tree")

    def test_trees_of_too_many_rows_on_either_side(self):
        log = [((0,), True)]
        below = ((1,), ((2,), None, None), None)
        self.assert_good(OPEN_1, (1, 2), log, 2, ("tree", below))
        self.assert_bad(OPEN_1, (1, 2), log, 1, ("tree", below), "tree")
        # By the row that was run all that is left fails.
        self.assert_good(OPEN_1, (1, 2), log, 3, ("tree", ((0,), None, below)))
        self.assert_bad(OPEN_1, (1, 2), log, 2, ("tree", ((0,), None, below)), "tree")
        log = [((0,), False), ((1,), False)]
        self.assert_good(OPEN_1, (1, 2), log, 2, ("tree", ((0,), ((2,), None, None), None)))
        self.assert_bad(OPEN_1, (1, 2), log, 1, ("tree", ((0,), ((2,), None, None), None)), "tree")

    def test_trees_where_at_most_one_is_left(self):
        for log in ([((1,), True)], [((1,), True), ((1,), False)]):
            for depth in range(4):
                self.assert_good(OPEN_1, (1, 1), log, depth, ("tree", None))
                self.assertEqual(game_paper(OPEN_1, (1, 1), log, depth), ("tree", None))
            self.assert_bad(OPEN_1, (1, 1), log, 0, ("tree", ((0,), None, None)), "tree")
            # A row more is one of at most so many.
            self.assert_good(OPEN_1, (1, 1), log, 1, ("tree", ((0,), None, None)))

    def test_bars(self):
        self.assert_good(OPEN_1, (1, 1), [], 0, ("bar", (ALL, ())))
        self.assert_good(OPEN_1, (1, 1), [], 1, ("bar", (ALL, ())))
        self.assert_bad(OPEN_1, (1, 1), [], 2, ("bar", (ALL, ())), "bar")
        self.assert_good(OPEN_1, (1, 1), [], 0, ("bar", ((A, C), ())))
        self.assert_bad(OPEN_1, (1, 1), [], 0, ("bar", ((C, A), ())), "bar")
        self.assert_bad(OPEN_1, (1, 1), [], 0, ("bar", ((A, A), ())), "bar")
        self.assert_bad(OPEN_1, (1, 1), [], 0, ("bar", ((A,), ())), "bar")
        self.assert_bad(OPEN_1, (1, 1), [], 0, ("bar", ((), ())), "bar")
        self.assert_bad(OPEN_1, (1, 1), [((2,), False)], 0, ("bar", ((A, C), ())), "bar")
        self.assert_good(OPEN_1, (1, 1), [((2,), False)], 0, ("bar", ((A, B), ())))

    def test_bars_with_bars(self):
        three = tuple((tuple(faults for faults in ALL if faults != out), ()) for out in (A, B, C))
        self.assert_good(OPEN_1, (1, 1), [], 2, ("bar", (ALL, three)))
        self.assert_good(OPEN_1, (1, 1), [], 2, ("bar", (ALL, three[::-1])))
        self.assert_good(OPEN_1, (1, 1), [], 2, ("bar", (ALL, three + three[:1])))
        for number in range(3):
            self.assert_bad(OPEN_1, (1, 1), [], 2, ("bar", (ALL, three[:number] + three[number + 1:])), "bar")
        # There may be bars further down, also where there are enough faults without them.
        two = (((), A), ()), ((B, C), ()), (((), B), ()), (((), C), ())
        self.assert_good(OPEN_1, (1, 1), [], 1, ("bar", (ALL, two)))
        deep = ((), B, C), ((((), B), ()), (((), C), ()))
        self.assert_good(OPEN_1, (1, 1), [], 2, ("bar", (ALL, (deep,) + three[1:])))
        # What is further down has to be among the faults, and to be a bar of one row less.
        self.assert_bad(OPEN_1, (1, 1), [], 1, ("bar", (((), A, B), two)), "bar")
        self.assert_bad(OPEN_1, (1, 1), [], 3, ("bar", (ALL, three)), "bar")
        self.assert_bad(OPEN_1, (1, 1), [], 0, ("bar", (ALL, three)), "bar")
        self.assert_bad(OPEN_1, (1, 1), [], 1, ("bar", (ALL, (((), ()),) + two)), "bar")

    def test_faults_of_a_bar_are_not_alike(self):
        one, other = (((0, 1),),), (((1, 1),),)
        self.assert_bad(ONE_LET, (1, 1), [], 0, ("bar", ((one, other), ())), "bar")
        self.assert_bad(ONE_LET, (1, 1), [((1, 1), True)], 0, ("bar", ((one, other), ())), "bar")
        # They need not be the first ones of their classes.
        self.assert_good(ONE_LET, (1, 1), [], 0, ("bar", (((), other), ())))

    def test_no_row_is_let(self):
        for depth in range(4):
            self.assertEqual(game_paper(NONE_LET, (1, 2), [], depth), ("tree", None))
            self.assertEqual(fewest_next(NONE_LET, (1, 2), (), depth), 0)
            self.assert_bad(NONE_LET, (1, 2), [], depth, ("bar", (((),), ())), "bar")
            self.assert_bad(NONE_LET, (1, 2), [], depth, ("bar", (((),), ((((),), ()),))), "bar")

    def test_seven_and_eight_are_left(self):
        for rig, shape, many, fewest in ((OPEN_1, (1, 2), 7, 3), (OPEN_2, (2, 1), 7, None), (FOUR, (1, 1), 8, 3),
                                         (FOUR, (3, 1), 8, None)):
            self.assertEqual(len(plain.left_ones(rig, shape, ())), many)
            self.assertEqual(fewest_next(rig, shape, (), 3), fewest)
            self.assertEqual(fewest_next(rig, shape, (), 3), plain.fewest_next(rig, shape, (), 3))
            paper = game_paper(rig, shape, (), 3)
            self.assertEqual(check_game(rig, shape, (), 3, paper), "tree" if fewest else "bar")
            self.assertTrue(self.assert_judged(rig, shape, (), 3, paper))


class ManyRigs(Judged, unittest.TestCase):

    def test_all_next_rows_tried(self):
        found = set()
        for rig, shape in tiny_cases()[::2]:
            for log in logs_of(rig, shape, 6, 5):
                fewest = plain.fewest_next(rig, shape, log, 3)
                found.add(fewest)
                for most in range(4):
                    told = fewest if fewest is not None and fewest <= most else None
                    self.assertEqual(fewest_next(rig, shape, log, most), told)
                    self.assert_own_paper(rig, shape, log, most, "bar" if told is None else "tree")
        self.assertEqual(found, {None, 0, 1, 2, 3})

    def assert_own_paper(self, rig, shape, log, depth, word):
        paper = game_paper(rig, shape, log, depth)
        self.assertEqual(paper[0], word)
        self.assertEqual(check_game(rig, shape, log, depth, paper), word)
        self.assertTrue(self.forms[word][1](rig, shape, log, depth, paper[1]))

    def test_more_faults(self):
        words = set()
        for rig, shape in small_cases()[::4]:
            for log in logs_of(rig, shape, 4, 16)[2:]:
                many = len(plain.left_ones(rig, shape, log))
                if 1 < many <= 8:
                    fewest = plain.fewest_next(rig, shape, log, 3)
                    self.assertEqual(fewest_next(rig, shape, log, 3), fewest)
                    self.assert_own_paper(rig, shape, log, 3, "bar" if fewest is None else "tree")
                    words.add((fewest, many))
        self.assertTrue({(None, many) for many in (5, 6)} & words)
        self.assertTrue({(3, many) for many in (5, 6, 7)} & words)

    def test_the_fact_with_all_trees(self):
        # There is a tree exactly where there is no bar, all trees gone through.
        tried = set()
        for rig, shape, log in ((OPEN_1, (1, 1), []), (OPEN_1, (1, 2), [((0,), False)]), (ONE_LET, (2, 1), ()),
                                (OPEN_1, (1, 2), [((0,), True)]), (((2,), ()), (1, 2), []),
                                (OPEN_1, (1, 1), [((2,), True)]), (BARRED_2, (2, 1), [((0, 0), False)])):
            rows = plain.let_rows(rig)
            for depth in range(4 if len(rows) <= 3 else 3):
                taken = 0
                for tree in self.all_trees(rows, depth):
                    taken += self.assert_judged(rig, shape, log, depth, ("tree", tree))
                word = game_paper(rig, shape, log, depth)[0]
                self.assertEqual(word, "tree" if taken else "bar")
                tried.add((word, depth))
        # With three rows or fewer three next rows are always enough.
        self.assertEqual(len(tried), 7)

    def all_trees(self, rows, depth):
        """All trees of so many rows, whichever faults they are for."""
        if depth == 0:
            return [None]
        below = self.all_trees(rows, depth - 1)
        return [None] + list(product(rows, below, below))

    def test_the_fact_with_all_bars(self):
        tried = set()
        for rig, shape, log in ((OPEN_1, (1, 1), []), (((2,), ()), (1, 2), []), (ONE_LET, (1, 1), []),
                                (OPEN_1, (1, 1), [((0,), False)])):
            every = plain.all_faults(rig, shape)
            groups = [group for many in range(len(every) + 1) for group in combinations(every, many)]
            flat = [(group, ()) for group in groups]
            nested = flat + [(group, bars) for group in groups for many in (1, 2, 3)
                             for bars in product([bar for bar in flat if len(bar[0]) == 2], repeat=many)]
            for depth, bars in ((0, flat), (1, nested), (2, flat)):
                taken = sum(self.assert_judged(rig, shape, log, depth, ("bar", bar)) for bar in bars)
                word = game_paper(rig, shape, log, depth)[0]
                tried.add((word, depth, taken > 0))
                if word == "tree":
                    self.assertEqual(taken, 0)
        self.assertLess({("bar", 0, True), ("bar", 1, True), ("tree", 1, False), ("tree", 2, False)}, tried)


class Papers(Judged, unittest.TestCase):

    def test_papers_with_one_thing_changed(self):
        taken = {"tree": 0, "bar": 0}
        for rig, shape, log, depth in (
                (OPEN_1, (1, 1), [], 3), (OPEN_1, (1, 1), [], 2), (OPEN_1, (1, 1), [], 0),
                (OPEN_1, (1, 1), [((1,), True)], 1), (OPEN_1, (1, 2), (((0,), True),), 2),
                (OPEN_1, (1, 2), (((0,), True),), 1), (OPEN_2, (1, 1), [((0, 0), True)], 2),
                (BARRED_2, (2, 1), [((0, 0), False)], 2), (BARRED_2, (2, 1), [((0, 0), False)], 1),
                (OPEN_3, (1, 1), [], 3), (NONE_LET, (1, 1), [], 0), (ONE_LET, (2, 1), (), 1)):
            paper = game_paper(rig, shape, log, depth)
            self.assertTrue(self.assert_judged(rig, shape, log, depth, paper))
            for other in changes(paper):
                taken[paper[0]] += self.assert_judged(rig, shape, log, depth, other)
        self.assertGreater(taken["tree"], 10)
        self.assertGreater(taken["bar"], 10)

    def test_bars_with_bars_with_one_thing_changed(self):
        three = tuple((tuple(faults for faults in ALL if faults != out), ()) for out in (A, B, C))
        deep = (((), B, C), ((((), B), ()), (((), C), ())))
        for paper in (("bar", (ALL, three)), ("bar", (ALL, (deep,) + three[1:]))):
            taken = 0
            self.assertTrue(self.assert_judged(OPEN_1, (1, 1), [], 2, paper))
            for other in changes(paper):
                taken += self.assert_judged(OPEN_1, (1, 1), [], 2, other)
            self.assertGreater(taken, 0)

    def test_no_papers(self):
        for log in ([], [((0,), True)]):
            for depth in (0, 3):
                for paper in NO_PAPERS + ODD + (("tree",), ("tree", None, None), ["tree", None], ("bar", ALL, ())):
                    self.assert_judged(OPEN_1, (1, 1), log, depth, paper)

    def test_papers_of_the_other_word(self):
        for rig, shape in tiny_cases()[::2]:
            for log in logs_of(rig, shape, 2, 4):
                left = plain.left_ones(rig, shape, log)
                for depth in range(3):
                    for paper in (("tree", None), ("bar", (left, ())), ("bar", (left[:3], ())), ("bar", (left, None)),
                                  ("tree", (left, ())), ("bar", None)):
                        self.assert_judged(rig, shape, log, depth, paper)
                    for row in plain.let_rows(rig)[:3]:
                        self.assert_judged(rig, shape, log, depth, ("tree", (row, None, None)))
                        self.assert_judged(rig, shape, log, depth, ("bar", (row, None, None)))


class WrongInputs(unittest.TestCase):

    def test_depth_and_most(self):
        for call, rest in ((game_paper, ()), (fewest_next, ()), (check_game, (None,))):
            for value in NO_INTEGERS + (-1, 4, 10 ** 999, -10 ** 999):
                with self.assertRaises(BadNumber) as caught:
                    call(OPEN_1, (1, 1), [], value, *rest)
                self.assertIs(caught.exception.value, value)
        for depth in range(4):
            game_paper(OPEN_1, (1, 1), [], depth)
            fewest_next(OPEN_1, (1, 1), [], depth)

    def test_which_error_comes_first(self):
        for call, rest in ((game_paper, ()), (fewest_next, ()), (check_game, (None,))):
            with self.assertRaises(BadRig):
                call(((2,), None), None, None, None, *rest)
            with self.assertRaises(BadShape):
                call(WIDE, None, None, None, *rest)
            with self.assertRaises(BadLog) as caught:
                call(WIDE, (3, 2), [((0,) * 5, True), None], None, *rest)
            self.assertEqual(caught.exception.place, 1)
            with self.assertRaises(BadLog) as caught:
                call(OPEN_1, (1, 1), [((0,), True)] * 41, 0, *rest)
            self.assertIsNone(caught.exception.place)
            with self.assertRaises(BadNumber):
                call(WIDE, (3, 2), [], 4, *rest)

    def test_more_than_two_thousand_faults(self):
        for rig in (WIDE, OPEN_5):
            for call in (game_paper, fewest_next):
                with self.assertRaises(TooGreat) as caught:
                    call(rig, (3, 2), [], 0)
                self.assertEqual(caught.exception.most, 2000)
            for told in (None, (), ((0,) * 5, None, None), 7):
                with self.assertRaises(TooGreat):
                    check_game(rig, (3, 2), [], 0, ("tree", told))
            for paper, word in ((("tree", None, None), "form"), (("bar", None), "bar"), (("bar", ()), "bar"),
                                (None, "form")):
                with self.assertRaises(BadPaper) as caught:
                    check_game(rig, (3, 2), [], 0, paper)
                self.assertEqual(caught.exception.word, word)
            lots = tuple(((0, 0), (1, 0), (2, value)) for value in (0, 1))
            two = ((lots[0],), (lots[0], lots[1]))
            self.assertEqual(check_game(rig, (3, 2), [((0,) * 5, True)], 0, ("bar", (two, ()))), "bar")
            with self.assertRaises(BadPaper):
                check_game(rig, (3, 2), [((0,) * 5, False)], 0, ("bar", (two, ())))

    def test_many_let_rows(self):
        rig, shape = ((4, 4, 4, 4, 4), ()), (1, 1)
        log = [((0,) * 5, False), ((1, 1, 1, 1, 2), False), ((2, 2, 2, 3, 3), False), ((3, 3, 2, 2, 3), False)]
        self.assertEqual(fewest_next(rig, shape, log, 3), plain.fewest_next(rig, shape, log, 3))
        paper = game_paper(rig, shape, log, 3)
        self.assertEqual(check_game(rig, shape, log, 3, paper), paper[0])


if __name__ == "__main__":
    unittest.main()
