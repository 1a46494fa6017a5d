import unittest
from itertools import combinations

from rowsthatname.errors import BadNumber, BadPaper, BadSuite, TooGreat
from rowsthatname.hearing import fitting
from rowsthatname.naming import bears, check_names, margin, mixed_lots, mixed_pair, name_paper, names
from tests import plain
from tests.papers import NO_PAPERS, Judging, changes, is_bears, is_mixed
from tests.samples import (NO_INTEGERS, NONE_LET, ODD, ONE_LET, OPEN_1, OPEN_2, OPEN_5, small_cases, suites_of,
                           tiny_cases, turned)

A, B, C = (((0, 0),),), (((0, 1),),), (((0, 2),),)


class Judged(Judging):
    """The papers of this part, and what takes them."""

    check = staticmethod(check_names)
    forms = {"bears": (2, is_bears), "mixed": (4, is_mixed)}



class ByHand(Judged, unittest.TestCase):

    def test_one_knob(self):
        self.assertIs(names(OPEN_1, (1, 1), []), False)
        self.assertIs(names(OPEN_1, (1, 1), [(0,), (1,)]), False)
        self.assertIs(names(OPEN_1, (1, 1), [(0,), (1,), (2,)]), True)
        self.assertEqual(mixed_pair(OPEN_1, (1, 1), [], 0), ((), A))
        self.assertEqual(mixed_pair(OPEN_1, (1, 1), [(0,)], 0), ((), B))
        self.assertEqual(mixed_pair(OPEN_1, (1, 1), [(0,), (1,)], 0), ((), C))
        self.assertIsNone(mixed_pair(OPEN_1, (1, 1), [(0,), (1,), (2,)], 0))
        self.assertEqual(mixed_pair(OPEN_1, (1, 1), [(0,), (1,), (2,)] * 2, 1), ((), A))
        self.assertIsNone(mixed_pair(OPEN_1, (1, 1), [(0,), (1,), (2,)] * 3, 1))

    def test_margin_and_bears(self):
        suite = [(0,), (1,), (2,)]
        for times, most in ((1, 0), (2, 0), (3, 1), (4, 1), (5, 2), (11, 5), (13, 5)):
            self.assertEqual(margin(OPEN_1, (1, 1), suite * times), times)
            for wrong in range(6):
                self.assertIs(bears(OPEN_1, (1, 1), suite * times, wrong), wrong <= most)
        self.assertEqual(margin(OPEN_1, (1, 1), []), 0)
        self.assertEqual(margin(OPEN_1, (1, 1), [(0,)] * 3 + [(1,)] * 5 + [(2,)] * 7), 3)
        self.assertEqual(margin(OPEN_1, (1, 2), [(0,)] * 3 + [(1,)] * 5), 0)

    def test_mixed_lots(self):
        self.assertEqual(mixed_lots(OPEN_1, (1, 1), []), (((), A, B, C),))
        self.assertEqual(mixed_lots(OPEN_1, (1, 1), [(1,)]), (((), A, C),))
        self.assertEqual(mixed_lots(OPEN_1, (1, 2), [(1,), (1,)]),
                         (((), A, A + C, C), (A + B, B, B + C)))
        self.assertEqual(mixed_lots(OPEN_1, (1, 1), [(0,), (1,), (2,)]), ())
        # Just the first ones of the classes: ((0, 1),) alone is alike ((1, 1),) here.
        self.assertEqual(mixed_lots(ONE_LET, (1, 1), []), (((), B),))

    def test_papers(self):
        suite = ((0,), (1,), (2,))
        sides = ((False, False, False), (True, False, False), (False, True, False), (False, False, True))
        self.assertEqual(name_paper(OPEN_1, (1, 1), suite, 0), ("bears", sides))
        self.assertEqual(check_names(OPEN_1, (1, 1), suite, 0, ("bears", sides)), "bears")
        for one, other, row in (((), A, (0,)), (A, (), (0,)), (B, A, (0,)), (B, A, (1,)), (C, B, (1,))):
            self.assertEqual(check_names(OPEN_1, (1, 1), suite, 1, ("mixed", one, other, row)), "mixed")
            self.assert_bad(OPEN_1, (1, 1), suite, 0, ("mixed", one, other, row), "mixed")
        # The sides are right, but they differ in two places at most.
        self.assert_bad(OPEN_1, (1, 1), suite, 1, ("bears", sides), "bears")
        self.assert_bad(OPEN_1, (1, 1), suite, 1, ("mixed", (), A, (1,)), "mixed")
        self.assert_bad(OPEN_1, (1, 1), suite, 1, ("mixed", A, A, (0,)), "mixed")
        self.assert_bad(OPEN_1, (1, 1), suite, 1, ("mixed", A, A + B, (1,)), "mixed")

    def test_all_faults_alike_and_no_lot_that_can_fail(self):
        self.assertIs(names(NONE_LET, (1, 2), []), True)
        for wrong in range(6):
            self.assertIs(bears(NONE_LET, (1, 2), (), wrong), True)
            self.assertEqual(name_paper(NONE_LET, (2, 1), (), wrong), ("bears", ((),)))
            self.assertEqual(check_names(NONE_LET, (2, 1), (), wrong, ("bears", ((),))), "bears")
        self.assertIsNone(margin(NONE_LET, (1, 2), []))
        self.assertIsNone(mixed_pair(NONE_LET, (1, 2), [], 5))
        self.assertEqual(mixed_lots(NONE_LET, (1, 2), []), ())

    def test_many_faults(self):
        rows = plain.let_rows(OPEN_5)
        self.assertIs(names(OPEN_5, (2, 2), rows), True)
        self.assertEqual(margin(OPEN_5, (2, 2), rows), 4)
        self.assertIs(bears(OPEN_5, (2, 2), rows, 1), True)
        self.assertEqual(mixed_pair(OPEN_5, (2, 2), rows, 2),
                         ((((0, 0), (1, 0)),), (((0, 0), (1, 0)), ((0, 0), (2, 0)))))
        self.assertEqual(check_names(OPEN_5, (2, 2), rows, 1, name_paper(OPEN_5, (2, 2), rows, 1)), "bears")


class ManyRigs(unittest.TestCase):

    def test_pairs_of_all_faults(self):
        for rig, shape in tiny_cases():
            for suite in suites_of(rig, 4, 25):
                self.assertIs(names(rig, shape, suite), plain.bears(rig, shape, suite, 0))
                self.assertEqual(margin(rig, shape, suite), plain.margin(rig, shape, suite))
                self.assertEqual(mixed_lots(rig, shape, suite), plain.mixed_lots(rig, shape, suite))
                for wrong in range(6):
                    self.assertIs(bears(rig, shape, suite, wrong), plain.bears(rig, shape, suite, wrong))
                    self.assertEqual(mixed_pair(rig, shape, suite, wrong),
                                     plain.mixed_pair(rig, shape, suite, wrong))

    def test_more_faults(self):
        for rig, shape in small_cases()[::4]:
            for suite in suites_of(rig, 1, 40)[2:]:
                told = [plain.outcomes(faults, suite) for faults in plain.firsts(rig, shape)]
                self.assertIs(names(rig, shape, suite), len(set(told)) == len(told))
                self.assertEqual(mixed_lots(rig, shape, suite), plain.mixed_lots(rig, shape, suite))
                self.assertIs(bears(rig, shape, suite, 0), names(rig, shape, suite))

    def test_one_kind_of_paper_and_it_is_taken(self):
        words = set()
        for rig, shape in tiny_cases():
            for suite in suites_of(rig, 4, 40):
                for wrong in (0, 1, 5):
                    paper = name_paper(rig, shape, suite, wrong)
                    word = "bears" if plain.bears(rig, shape, suite, wrong) else "mixed"
                    self.assertEqual(paper[0], word)
                    self.assertEqual(check_names(rig, shape, suite, wrong, paper), word)
                    holds = {"bears": is_bears, "mixed": is_mixed}[word]
                    self.assertTrue(holds(rig, shape, suite, wrong, *paper[1:]))
                    words.add((word, wrong))
        self.assertEqual(len(words), 6)

    def test_the_fact_of_outcomes_that_are_wrong(self):
        # What bears W wrong outcomes does so for all faults and all turned outcomes; what does not, fails for some.
        tried = set()
        for rig, shape in tiny_cases():
            every = plain.all_faults(rig, shape)
            for suite in suites_of(rig, 3, 7):
                for wrong in (0, 1, 2):
                    if len(every) > 14 or len(suite) > 7 - wrong:
                        continue
                    does = all(self.are_told_apart(rig, shape, suite, wrong, faults) for faults in every)
                    self.assertIs(bears(rig, shape, suite, wrong), does)
                    tried.add((wrong, does))
        self.assertEqual(len(tried), 6)

    def are_told_apart(self, rig, shape, suite, wrong, faults):
        told = plain.outcomes(faults, suite)
        for many in range(min(wrong, len(suite)) + 1):
            for numbers in combinations(range(len(suite)), many):
                fit = fitting(rig, shape, suite, turned(told, numbers), wrong)
                self.assertIn(faults, fit)
                if not all(plain.is_alike(rig, faults, other) for other in fit):
                    return False
        return True


class Papers(Judged, unittest.TestCase):

    def test_papers_with_one_thing_changed(self):
        taken = {"bears": 0, "mixed": 0}
        for rig, shape, suite, wrong in (
                (OPEN_1, (1, 1), [(0,), (1,), (2,)], 0), (OPEN_1, (1, 1), [(0,), (1,), (2,)], 1),
                (OPEN_1, (1, 2), ((0,), (1,)), 0), (OPEN_2, (1, 1), plain.let_rows(OPEN_2), 0),
                (OPEN_2, (1, 2), plain.let_rows(OPEN_2), 0), (ONE_LET, (1, 2), [(1, 1)], 0),
                (ONE_LET, (2, 1), [], 0), (NONE_LET, (1, 1), [], 5), (OPEN_2, (2, 2), [(0, 0), (1, 1)], 1)):
            paper = name_paper(rig, shape, suite, wrong)
            self.assertTrue(self.assert_judged(rig, shape, suite, wrong, paper))
            for other in changes(paper):
                taken[paper[0]] += self.assert_judged(rig, shape, suite, wrong, other)
        # No side may be otherwise, but there are other pairs that are mixed up, and other rows that part them.
        self.assertEqual(taken["bears"], 0)
        self.assertGreater(taken["mixed"], 2)

    def test_no_papers(self):
        for suite in ([], [(0,), (1,), (2,)]):
            for wrong in (0, 5):
                for paper in NO_PAPERS + ODD:
                    self.assertFalse(self.assert_judged(OPEN_1, (1, 1), suite, wrong, paper))

    def test_papers_of_the_other_word(self):
        for rig, shape in tiny_cases():
            for suite in suites_of(rig, 1, 9):
                told = tuple(plain.outcomes(faults, suite) for faults in plain.firsts(rig, shape))
                for wrong in (0, 2):
                    self.assert_judged(rig, shape, suite, wrong, ("bears", told))
                    for one, other in plain.unlike_pairs(rig, shape)[:6]:
                        row = plain.parting_rows(rig, one, other)[-1]
                        self.assert_judged(rig, shape, suite, wrong, ("mixed", other, one, row))

    def test_all_mixed_papers_of_a_rig(self):
        taken = 0
        suite = [(0, 0), (1, 2), (1, 1)]
        for one in plain.all_faults(OPEN_2, (1, 1)):
            for other in plain.all_faults(OPEN_2, (1, 1)):
                for row in plain.let_rows(OPEN_2):
                    taken += self.assert_judged(OPEN_2, (1, 1), suite, 0, ("mixed", one, other, row))
        self.assertGreater(taken, 5)


class WrongInputs(unittest.TestCase):

    def test_numbers_of_wrong_outcomes(self):
        for call in (bears, mixed_pair, name_paper):
            for wrong in (0, 5):
                call(OPEN_1, (1, 1), [(0,)], wrong)
            for value in NO_INTEGERS + ODD + (-1, 6, 7, 10 ** 999):
                if value.__class__ is int and 0 <= value <= 5:
                    continue
                with self.assertRaises(BadNumber) as caught:
                    call(OPEN_1, (1, 1), [(0,)], value)
                self.assertIs(caught.exception.value, value)
                with self.assertRaises(BadNumber):
                    check_names(OPEN_1, (1, 1), [(0,)], value, None)

    def test_forty_rows_and_more(self):
        for call, rest in ((names, ()), (bears, (5,)), (margin, ()), (mixed_lots, ()), (name_paper, (0,))):
            call(OPEN_1, (1, 1), [(0,)] * 40, *rest)
            with self.assertRaises(BadSuite) as caught:
                call(OPEN_1, (1, 1), [(0,)] * 41, *rest)
            self.assertIsNone(caught.exception.place)

    def test_form_ahead_of_too_great_ahead_of_bears(self):
        rig, shape = ((4, 4, 4, 4, 4), ()), (2, 2)
        with self.assertRaises(BadPaper):
            check_names(rig, shape, [], 0, ("bears", (), ()))
        with self.assertRaises(TooGreat):
            check_names(rig, shape, [], 0, ("bears", 7))
        with self.assertRaises(BadNumber):
            check_names(rig, shape, [], 6, ("bears", 7))
        lots = (((0, 0), (1, 0)), ((0, 0), (1, 1)))
        self.assertEqual(check_names(rig, shape, [], 0, ("mixed", lots[:1], lots, (0, 1, 3, 3, 3))), "mixed")


if __name__ == "__main__":
    unittest.main()
