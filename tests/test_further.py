import unittest
from itertools import combinations_with_replacement

from rowsthatname.errors import BadNumber, BadPaper, BadSuite, TooGreat
from rowsthatname.faults import all_faults, parting_rows
from rowsthatname.further import check_further, fewest_further, further_paper, further_rows
from tests import plain
from tests.papers import NO_PAPERS, Judging, changes, is_rows, is_tree
from tests.samples import (BARRED_2, NO_INTEGERS, NONE_LET, ODD, ONE_LET, OPEN_1, OPEN_2, OPEN_3, OPEN_5, WIDE,
                           suites_of, tiny_cases)

ALL_ROWS = [(0,), (1,), (2,)]
A, B, C = (((0, 0),),), (((0, 1),),), (((0, 2),),)
# Thirty-six of 48 rows are let, and thirty-seven.
THIRTY_SIX = ((4, 4, 3), (((0, 0), (1, 0)), ((0, 1), (1, 1)), ((0, 2), (1, 2)), ((0, 3), (1, 3))))
THIRTY_SEVEN = ((4, 4, 3), THIRTY_SIX[1][:3] + (((0, 3), (1, 3), (2, 0)), ((0, 3), (1, 3), (2, 2))))


def trying_cases():
    """Cases of which all further rows can be tried."""
    return [(rig, shape) for rig, shape in tiny_cases() if len(plain.let_rows(rig)) <= 16]


class Judged(Judging):
    """The papers of this part, and what takes them."""

    check = staticmethod(check_further)
    forms = {"rows": (2, is_rows), "tree": (2, is_tree)}



class ByHand(Judged, unittest.TestCase):

    def test_one_knob(self):
        self.assertEqual(further_rows(OPEN_1, (1, 1), ALL_ROWS, 0), ())
        self.assertEqual(further_rows(OPEN_1, (1, 1), ALL_ROWS[1:], 1), ((0,),))
        self.assertEqual(sorted(further_rows(OPEN_1, (1, 1), [], 3)), ALL_ROWS)
        self.assertIsNone(further_rows(OPEN_1, (1, 1), [], 2))
        self.assertEqual(fewest_further(OPEN_1, (1, 1), [(1,)], 3), 2)
        self.assertEqual(fewest_further(OPEN_1, (1, 1), [(1,)], 2), 2)
        self.assertIsNone(fewest_further(OPEN_1, (1, 1), [(1,)], 1))
        self.assertEqual(fewest_further(OPEN_1, (1, 1), ALL_ROWS, 3), 0)

    def test_trees(self):
        tree = ((), A, (((), B, (((), C, ()),)),))
        self.assertEqual(check_further(OPEN_1, (1, 1), [], 2, ("tree", tree)), "tree")
        self.assertEqual(further_paper(OPEN_1, (1, 1), [], 0)[0], "tree")
        # The two may stand in any order, and others may stand further down.
        self.assertEqual(check_further(OPEN_1, (1, 1), [], 0, ("tree", (B, A, ()))), "tree")
        two = (B, A, (((), C, ()), ((), C, ())))
        self.assertEqual(check_further(OPEN_1, (1, 1), [], 1, ("tree", two)), "tree")
        for depth in (0, 2, 3):
            self.assert_bad(OPEN_1, (1, 1), [], depth, ("tree", two), "tree")
        # What was parted ahead has no longer the same outcomes.
        self.assert_bad(OPEN_1, (1, 1), [], 1, ("tree", ((), A, (((), A, ()),))), "tree")
        self.assert_bad(OPEN_1, (1, 1), [], 1, ("tree", (B, A, (((), C, ()), (B, C, ())))), "tree")
        self.assertEqual(check_further(OPEN_1, (1, 1), [], 1, ("tree", (B, A, (((), C, ()), ((), C, ()))))), "tree")
        self.assert_bad(OPEN_1, (1, 1), [(1,)], 0, ("tree", (B, A, ())), "tree")

    def test_faults_of_a_tree_are_not_alike(self):
        one, other = (((0, 1),),), (((1, 1),),)
        self.assert_bad(ONE_LET, (1, 1), [], 0, ("tree", (one, other, ())), "tree")
        self.assert_bad(ONE_LET, (1, 1), [], 3, ("tree", (one, other, ())), "tree")
        self.assertEqual(check_further(ONE_LET, (1, 1), [], 0, ("tree", ((), other, ()))), "tree")
        self.assert_bad(OPEN_1, (1, 1), [], 0, ("tree", (A, A, ())), "tree")

    def test_rows(self):
        for rows in (((0,), (1,), (2,)), ((2,), (1,), (0,)), ((1,), (0,), (2,))):
            self.assertEqual(check_further(OPEN_1, (1, 1), [], 3, ("rows", rows)), "rows")
            self.assert_bad(OPEN_1, (1, 1), [], 2, ("rows", rows), "rows")
            self.assertEqual(check_further(OPEN_1, (1, 1), [(2,)], 3, ("rows", rows)), "rows")
        self.assertEqual(check_further(OPEN_1, (1, 1), ALL_ROWS, 2, ("rows", ((1,), (1,)))), "rows")
        self.assert_bad(OPEN_1, (1, 1), [], 3, ("rows", ((1,), (2,), (2,))), "rows")
        self.assert_bad(OPEN_1, (1, 1), ALL_ROWS, 3, ("rows", ((3,),)), "rows")
        self.assert_bad(BARRED_2, (1, 1), [(0, 0), (0, 1), (1, 1), (1, 2)], 3, ("rows", ((0, 2),)), "rows")

    def test_behind_forty_rows(self):
        suite = [(0,)] * 40
        self.assertEqual(sorted(further_rows(OPEN_1, (1, 1), suite, 3)), ALL_ROWS[1:])
        self.assertEqual(check_further(OPEN_1, (1, 1), suite, 3, ("rows", tuple(ALL_ROWS))), "rows")
        self.assertEqual(further_paper(OPEN_1, (1, 1), suite, 1)[0], "tree")
        with self.assertRaises(BadSuite):
            further_rows(OPEN_1, (1, 1), suite + [(0,)], 3)

    def test_all_faults_alike(self):
        for most in range(4):
            self.assertEqual(further_rows(NONE_LET, (1, 2), [], most), ())
            self.assertEqual(fewest_further(NONE_LET, (2, 1), (), most), 0)
            self.assertEqual(further_paper(NONE_LET, (2, 1), (), most), ("rows", ()))
            self.assertEqual(check_further(NONE_LET, (2, 1), (), most, ("rows", ())), "rows")


class ManyRigs(unittest.TestCase):

    def test_all_further_rows_tried(self):
        found = set()
        for rig, shape in trying_cases():
            for suite in suites_of(rig, 4, 8):
                fewest = plain.fewest_further(rig, shape, suite, 3)
                found.add(fewest)
                for most in range(4):
                    told = fewest if fewest is not None and fewest <= most else None
                    self.assertEqual(fewest_further(rig, shape, suite, most), told)
                    rows = further_rows(rig, shape, suite, most)
                    if told is None:
                        self.assertIsNone(rows)
                    else:
                        self.assertEqual(len(rows), told)
                        self.assertTrue(is_rows(rig, shape, suite, most, rows))
        self.assertEqual(found, {None, 0, 1, 2, 3})

    def test_the_fact_of_trees(self):
        # No N further rows are enough exactly if there is a tree of depth N; the program's own paper is taken.
        words = set()
        for rig, shape in trying_cases():
            for suite in suites_of(rig, 3, 8):
                fewest = plain.fewest_further(rig, shape, suite, 3)
                for most in range(4):
                    paper = further_paper(rig, shape, suite, most)
                    word = "tree" if fewest is None or fewest > most else "rows"
                    self.assertEqual(paper[0], word)
                    self.assertEqual(check_further(rig, shape, suite, most, paper), word)
                    self.assertTrue({"rows": is_rows, "tree": is_tree}[word](rig, shape, suite, most, paper[1]))
                    words.add((word, most))
        self.assertEqual(len(words), 8)

    def test_there_is_no_tree_where_further_rows_are_enough(self):
        for suite, most in (([], 3), ([(1,)], 2), ([(0,), (1,)], 1), (ALL_ROWS, 0)):
            for shape in ((1, 1), (1, 2)):
                self.assertEqual(further_rows(OPEN_1, shape, suite, most), tuple(
                    row for row in ALL_ROWS if row not in suite))
                for tree in self.all_trees(OPEN_1, shape, most):
                    with self.assertRaises(BadPaper):
                        check_further(OPEN_1, shape, suite, most, ("tree", tree))

    def all_trees(self, rig, shape, depth):
        """All things that look like trees, with just one pair at each depth."""
        every = all_faults(rig, shape)[:4]
        for pairs in combinations_with_replacement([(one, other) for one in every for other in every
                                                    if one < other], depth + 1):
            tree = ()
            for one, other in pairs:
                many = len(parting_rows(rig, shape, one, other))
                tree = (one, other, (tree,) * many if tree else ())
            yield tree

    def test_suites_that_name_but_for_some_rows(self):
        for rig, shape in tiny_cases():
            rows = plain.let_rows(rig)
            if not 4 <= len(rows) <= 36:
                continue
            for cut in (1, 2, 3):
                fewest = fewest_further(rig, shape, rows[cut:], 3)
                self.assertLessEqual(fewest, cut)
                self.assertEqual(fewest, plain.fewest_further(rig, shape, rows[cut:], 3))


class Papers(Judged, unittest.TestCase):

    def test_papers_with_one_thing_changed(self):
        taken = {"rows": 0, "tree": 0}
        for rig, shape, suite, most in (
                (OPEN_1, (1, 1), [], 3), (OPEN_1, (1, 1), [], 2), (OPEN_1, (1, 2), [(0,)], 1),
                (OPEN_1, (1, 2), ((0,), (1,)), 3), (OPEN_2, (1, 1), [(0, 0)], 0), (OPEN_2, (1, 1), [(0, 0)], 1),
                (OPEN_2, (2, 2), plain.let_rows(OPEN_2)[:4], 2), (OPEN_2, (2, 2), plain.let_rows(OPEN_2)[2:], 1),
                (ONE_LET, (2, 1), [], 0), (NONE_LET, (1, 1), [], 1), (BARRED_2, (2, 1), [(0, 0)], 2)):
            paper = further_paper(rig, shape, suite, most)
            self.assertTrue(self.assert_judged(rig, shape, suite, most, paper))
            for other in changes(paper):
                taken[paper[0]] += self.assert_judged(rig, shape, suite, most, other)
        self.assertGreater(taken["rows"], 3)
        self.assertGreater(taken["tree"], 10)

    def test_no_papers(self):
        for suite in ([], ALL_ROWS):
            for most in (0, 3):
                for paper in NO_PAPERS + ODD + (("rows", (), ()), ("tree", ((), A, ()), ())):
                    if paper == ("rows", ()) and suite:
                        continue
                    self.assertFalse(self.assert_judged(OPEN_1, (1, 1), suite, most, paper))

    def test_papers_of_the_other_word(self):
        for rig, shape in trying_cases()[::2]:
            for suite in suites_of(rig, 1, 5):
                for most in (0, 1):
                    for row in plain.let_rows(rig)[:3]:
                        self.assert_judged(rig, shape, suite, most, ("rows", (row,)))
                    for one, other in plain.unlike_pairs(rig, shape)[:4]:
                        many = len(plain.parting_rows(rig, one, other)) if most else 0
                        below = (plain.firsts(rig, shape)[0], plain.firsts(rig, shape)[-1], ())
                        self.assert_judged(rig, shape, suite, most, ("tree", (one, other, (below,) * many)))


class WrongInputs(unittest.TestCase):

    def test_most(self):
        for call, rest in ((further_rows, ()), (fewest_further, ()), (further_paper, ()), (check_further, (None,))):
            for value in NO_INTEGERS + (-1, 4, 10 ** 999, -10 ** 999):
                with self.assertRaises(BadNumber) as caught:
                    call(OPEN_1, (1, 1), [], value, *rest)
                self.assertIs(caught.exception.value, value)
        for most in range(4):
            further_paper(OPEN_1, (1, 1), [], most)

    def test_thirty_six_let_rows_and_more(self):
        self.assertEqual(len(plain.let_rows(THIRTY_SIX)), 36)
        self.assertEqual(len(plain.let_rows(THIRTY_SEVEN)), 37)
        for rig in (THIRTY_SEVEN, WIDE):
            for call in (further_rows, fewest_further, further_paper):
                with self.assertRaises(TooGreat) as caught:
                    call(rig, (1, 1), [], 3)
                self.assertEqual(caught.exception.most, 36)
                with self.assertRaises(BadNumber):
                    call(rig, (1, 1), [], 4)
                call(THIRTY_SIX, (1, 1), [], 1)
        # Papers of such rigs are looked at.
        rows = plain.let_rows(THIRTY_SEVEN)
        self.assertEqual(check_further(THIRTY_SEVEN, (1, 1), rows, 0, ("rows", ())), "rows")
        self.assertEqual(check_further(THIRTY_SEVEN, (1, 1), [], 0, ("tree", ((), A, ()))), "tree")

    def test_more_than_two_thousand_faults(self):
        for call in (further_rows, fewest_further, further_paper):
            with self.assertRaises(TooGreat) as caught:
                call(OPEN_5, (3, 2), [], 3)
            self.assertEqual(caught.exception.most, 2000)
            with self.assertRaises(TooGreat) as caught:
                call(WIDE, (3, 2), [], 3)
            self.assertEqual(caught.exception.most, 36)
        for told in ((), None, ((0, 0),)):
            with self.assertRaises(TooGreat) as caught:
                check_further(OPEN_5, (3, 2), [], 3, ("rows", told))
            self.assertEqual(caught.exception.most, 2000)
        with self.assertRaises(BadPaper):
            check_further(OPEN_5, (3, 2), [], 3, ("rows", (), ()))
        one = (((0, 0), (1, 0), (2, 0)),)
        self.assertEqual(check_further(OPEN_5, (3, 2), [], 0, ("tree", ((), one, ()))), "tree")
        with self.assertRaises(BadPaper):
            check_further(OPEN_5, (3, 2), [], 1, ("tree", ((), one, ())))

    def test_many_faults(self):
        rows = plain.let_rows(OPEN_5)
        self.assertEqual(further_rows(OPEN_5, (2, 2), rows, 3), ())
        rig, shape = ((3, 3, 2, 2), ()), (3, 2)
        rows = plain.let_rows(rig)
        self.assertEqual(set(further_rows(rig, shape, rows[3:], 3)), set(rows[:3]))
        self.assertEqual(check_further(rig, shape, rows[4:], 3, further_paper(rig, shape, rows[4:], 3)), "tree")
        self.assertEqual(further_rows(OPEN_3, (3, 1), plain.let_rows(OPEN_3)[1:], 3), ((0, 0, 0),))


if __name__ == "__main__":
    unittest.main()
