import unittest
from itertools import product

from rowsthatname.beside import (check_settle, kinds, names_without, settle_paper, settled_rows, settles, translated,
                                 weak_rows)
from rowsthatname.errors import BadNumber, BadOutcomes, BadPaper, BadRig, BadShape, BadSuite, TooGreat
from rowsthatname.naming import margin, names
from tests import plain
from tests.papers import NO_PAPERS, Judging, changes, is_hides, is_settles
from tests.samples import (BARRED_2, NO_INTEGERS, NONE_LET, ODD, ONE_LET, OPEN_1, OPEN_2, OPEN_3, OPEN_5, WIDE,
                           small_cases, suites_of, tiny_cases)

A, B, C = (((0, 0),),), (((0, 1),),), (((0, 2),),)
T, F = True, False
SUITES = [(), [(0,)], ((1,),), [(0,), (1,)], ((1,), (0,)), [(0,), (0,), (2,)], [(0,), (1,), (2,)], ((2,), (2,))]


def short_suites(rig, many):
    """Some suites of none to six rows, unlike and alike ones."""
    return [suite[:6] for suite in suites_of(rig, many, 6)]


class Judged(Judging):
    """The papers of this part, and what takes them."""

    check = staticmethod(check_settle)
    forms = {"settles": (2, is_settles), "hides": (3, is_hides)}


class ByHand(Judged, unittest.TestCase):

    def test_what_settles(self):
        self.assertIs(settles(OPEN_1, (1, 1), [(0,), (1,), (2,)], [(2,), (0,)]), True)
        self.assertIs(settles(OPEN_1, (1, 1), [(0,), (1,)], [(2,)]), False)
        self.assertIs(settles(OPEN_1, (1, 1), [(0,), (1,)], ((1,), (1,), (0,))), True)
        self.assertIs(settles(OPEN_1, (1, 1), [], []), True)
        self.assertIs(settles(OPEN_1, (1, 1), [], [(0,)]), False)
        self.assertIs(settles(OPEN_1, (1, 1), ((0,),), ()), True)
        # One of three rows fails by faults if the two others are good, but perhaps none does.
        self.assertIs(settles(((2,), ()), (1, 1), [(0,)], [(1,)]), False)
        self.assertIs(settles(ONE_LET, (1, 1), [], [(1, 1)]), False)
        self.assertIs(settles(NONE_LET, (1, 1), [], []), True)

    def test_papers(self):
        paper = ("settles", (((F, F), (F,)), ((F, T), (F,)), ((T, F), (T,))))
        self.assertEqual(settle_paper(OPEN_1, (1, 1), [(0,), (1,)], [(0,)]), paper)
        self.assertEqual(check_settle(OPEN_1, (1, 1), [(0,), (1,)], [(0,)], paper), "settles")
        self.assertEqual(settle_paper(OPEN_1, (1, 1), [], []), ("settles", (((), ()),)))
        self.assertEqual(settle_paper(NONE_LET, (1, 1), (), []), ("settles", (((), ()),)))
        self.assertEqual(settle_paper(OPEN_1, (1, 1), [(0,), (1,)], [(2,)])[0], "hides")
        for one, other in (((), C), (C, ())):
            self.assertEqual(check_settle(OPEN_1, (1, 1), [(0,), (1,)], [(2,)], ("hides", one, other)), "hides")
        for one, other in (((), A), (A, C), ((), ()), (C, C), (None, C), (C, None), ((), list(C)), ((), ((0, 2),))):
            self.assert_bad(OPEN_1, (1, 1), [(0,), (1,)], [(2,)], ("hides", one, other), "hides")
        # A table with two pairs of the same outcomes is no paper, though all faults are in it.
        table = (((F, F), (F,)), ((F, F), (T,)), ((F, T), (F,)), ((T, F), (F,)))
        self.assert_bad(OPEN_1, (1, 1), [(0,), (1,)], [(2,)], ("settles", table), "settles")
        self.assert_bad(OPEN_1, (1, 1), [(0,), (1,)], [(2,)], ("settles", table[:1] + table[2:]), "settles")

    def test_translated(self):
        suite, other = [(0,), (1,)], [(2,), (0,), (2,), (1,)]
        self.assertEqual(translated(OPEN_1, (1, 1), suite, other, (F, F)), (None, F, None, F))
        self.assertEqual(translated(OPEN_1, (1, 1), suite, other, (F, T)), (F, F, F, T))
        self.assertIsNone(translated(OPEN_1, (1, 1), suite, other, (T, T)))
        self.assertEqual(translated(OPEN_1, (1, 2), suite, other, (T, T)), (F, T, F, T))
        self.assertEqual(translated(OPEN_1, (1, 1), [(0,)], [], (T,)), ())
        self.assertEqual(translated(OPEN_1, (1, 1), [], [(0,)], ()), (None,))
        self.assertIsNone(translated(OPEN_1, (1, 1), [(0,), (0,)], [], (T, F)))
        self.assertEqual(translated(NONE_LET, (1, 2), [], [], ()), ())

    def test_settled_rows_and_kinds(self):
        self.assertEqual(settled_rows(OPEN_1, (1, 1), [(0,), (0,), (1,), (0,), (2,), (2,)]), (1, 3, 5))
        self.assertEqual(settled_rows(OPEN_1, (1, 1), [(0,), (1,), (2,)]), ())
        self.assertEqual(settled_rows(OPEN_1, (1, 1), ()), ())
        # Two knobs of two values: behind three rows the fourth one is told if just one setting can fail.
        square = ((2, 2), ())
        self.assertEqual(settled_rows(square, (1, 1), [(0, 0), (0, 1), (1, 0), (1, 1)]), (3,))
        self.assertEqual(settled_rows(square, (2, 1), [(0, 0), (0, 1), (1, 0), (1, 1)]), ())
        self.assertEqual(kinds(OPEN_1, (1, 1), []), 1)
        self.assertEqual(kinds(OPEN_1, (1, 1), [(0,)]), 2)
        self.assertEqual(kinds(OPEN_1, (1, 1), [(0,), (1,)]), 3)
        self.assertEqual(kinds(OPEN_1, (1, 2), ((0,), (1,))), 4)
        self.assertEqual(kinds(OPEN_1, (1, 2), ((0,), (1,), (2,))), 7)
        self.assertEqual(kinds(NONE_LET, (1, 2), ()), 1)

    def test_weak_rows(self):
        rows = [(0,), (1,), (2,)]
        self.assertEqual(weak_rows(OPEN_1, (1, 1), rows), (0,))
        self.assertEqual(weak_rows(OPEN_1, (1, 1), rows + [(0,)]), (1,))
        self.assertEqual(weak_rows(OPEN_1, (1, 1), rows + [(0,), (1,)]), (2,))
        self.assertEqual(weak_rows(OPEN_1, (1, 1), rows + [(2,), (1,), (0,)]), (0, 5))
        self.assertEqual(weak_rows(OPEN_1, (1, 1), tuple(rows * 3)), (0, 3, 6))
        self.assertEqual(weak_rows(OPEN_1, (1, 1), rows[:2]), ())
        self.assertEqual(weak_rows(OPEN_1, (1, 1), []), ())
        self.assertIsNone(weak_rows(NONE_LET, (1, 2), []))
        self.assertEqual(weak_rows(ONE_LET, (1, 2), [(1, 1)] * 40), tuple(range(40)))

    def test_names_without(self):
        rows = [(0,), (1,), (2,)]
        for lost in range(6):
            self.assertIs(names_without(OPEN_1, (1, 1), rows, lost), lost < 1)
            self.assertIs(names_without(OPEN_1, (1, 1), rows * 3, lost), lost < 3)
            self.assertIs(names_without(OPEN_1, (1, 1), rows * 6, lost), True)
            self.assertIs(names_without(OPEN_1, (1, 1), rows[:2], lost), False)
            self.assertIs(names_without(OPEN_1, (1, 1), (), lost), False)
            # Where all faults are alike, there is nothing to name.
            self.assertIs(names_without(NONE_LET, (1, 1), (), lost), True)
            # If there are fewer rows than are lost, all of them are.
            self.assertIs(names_without(ONE_LET, (1, 1), [(1, 1)] * 3, lost), lost < 3)


class ManyRigs(Judged, unittest.TestCase):

    def test_pairs_of_suites(self):
        words = set()
        for rig, shape in tiny_cases()[::2]:
            suites = short_suites(rig, 4)
            for suite, other in list(zip(suites, suites[1:])) + [(suites[-1], suites[-3]), (suites[3], suites[4])]:
                does = plain.settles(rig, shape, suite, other)
                self.assertIs(settles(rig, shape, suite, other), does)
                paper = settle_paper(rig, shape, suite, other)
                self.assertEqual(paper[0], "settles" if does else "hides")
                self.assertTrue(self.assert_judged(rig, shape, suite, other, paper))
                words.add((paper[0], len(other) > 0))
                self.assert_translated(rig, shape, suite, other)
        self.assertEqual(words, {("settles", True), ("settles", False), ("hides", True)})

    def assert_translated(self, rig, shape, suite, other):
        """For some of all outcomes, the ones that faults give among them."""
        given = [plain.outcomes(faults, suite) for faults in plain.all_faults(rig, shape)[::3]]
        for heard in given + list(product((T, F), repeat=len(suite)))[::7]:
            told = translated(rig, shape, suite, other, heard)
            self.assertEqual(told, plain.translated(rig, shape, suite, other, heard))
            if told is not None and settles(rig, shape, suite, other):
                self.assertNotIn(None, told)

    def test_single_suites(self):
        for rig, shape in tiny_cases():
            for suite in short_suites(rig, 5):
                told = {plain.outcomes(faults, suite) for faults in plain.all_faults(rig, shape)}
                self.assertEqual(kinds(rig, shape, suite), len(told))
                self.assertEqual(settled_rows(rig, shape, suite), plain.settled_rows(rig, shape, suite))
                self.assertEqual(weak_rows(rig, shape, suite), plain.weak_rows(rig, shape, suite))
                for lost in range(6):
                    self.assertIs(names_without(rig, shape, suite, lost), plain.names_without(rig, shape, suite, lost))

    def test_suites_that_name(self):
        found = set()
        for rig, shape in tiny_cases()[::2]:
            rows = plain.let_rows(rig)
            for suite in (rows, rows + rows[:3], rows + rows):
                if 0 < len(suite) <= 10:
                    weak = plain.weak_rows(rig, shape, suite)
                    self.assertEqual(weak_rows(rig, shape, suite), weak)
                    found.add(len(weak))
                    for lost in range(6):
                        told = plain.names_without(rig, shape, suite, lost)
                        self.assertIs(names_without(rig, shape, list(suite), lost), told)
                        # Without the weak rows a suite does not name the faults.
                        self.assertIs(told, lost < len(weak))
        self.assertTrue({1, 2, 3, 4} <= found, found)

    def test_the_fact_of_lost_rows(self):
        for rig, shape in small_cases()[::2]:
            if len(plain.all_faults(rig, shape)) > 200:
                continue
            for suite in suites_of(rig, 2, 20):
                least = margin(rig, shape, suite)
                for lost in range(6):
                    self.assertIs(names_without(rig, shape, suite, lost), least is None or least > lost)
                weak = weak_rows(rig, shape, suite)
                self.assertEqual(None if weak is None else len(weak), least)
                if weak is not None:
                    self.assertIs(names(rig, shape, plain.without_rows(suite, weak)), False)

    def test_all_faults_gone_through_for_all_hides(self):
        # Some two faults are hidden exactly if the suite does not settle the other one.
        for suite, other in product(SUITES, repeat=2):
            for shape in ((1, 1), (1, 2)):
                every = plain.all_faults(OPEN_1, shape)
                taken = sum(self.assert_judged(OPEN_1, shape, suite, other, ("hides", one, one_more))
                            for one in every for one_more in every)
                self.assertEqual(settles(OPEN_1, shape, suite, other), taken == 0)
                table = tuple(plain.both_outcomes(OPEN_1, shape, suite, other))
                self.assertEqual(self.assert_judged(OPEN_1, shape, suite, other, ("settles", table)), taken == 0)


class Papers(Judged, unittest.TestCase):

    def test_papers_with_one_thing_changed(self):
        taken = {"settles": 0, "hides": 0}
        for rig, shape, suite, other in (
                (OPEN_1, (1, 1), [(0,), (1,)], [(0,)]), (OPEN_1, (1, 1), [(0,), (1,)], [(2,)]),
                (OPEN_1, (1, 2), [(0,), (1,), (2,)], ((2,), (1,))), (OPEN_1, (1, 2), [], [(1,)]),
                (OPEN_2, (1, 1), [(0, 0), (1, 1)], [(0, 1)]), (OPEN_2, (2, 1), ((0, 0),), [(0, 0), (0, 0)]),
                (NONE_LET, (1, 1), [], ()), (ONE_LET, (1, 2), [], [(1, 1)]), (BARRED_2, (2, 1), [(0, 0)], [(1, 1)]),
                (OPEN_1, (1, 1), [(0,)], [])):
            paper = settle_paper(rig, shape, suite, other)
            self.assertTrue(self.assert_judged(rig, shape, suite, other, paper))
            for changed in changes(paper):
                taken[paper[0]] += self.assert_judged(rig, shape, suite, other, changed)
        # There is just one table, but there are other faults that are hidden.
        self.assertEqual(taken["settles"], 0)
        self.assertGreater(taken["hides"], 3)

    def test_no_papers(self):
        for suite, other in (([], []), ([(0,), (1,)], [(2,)]), ([(0,), (1,), (2,)], [(2,)])):
            for paper in NO_PAPERS + ODD + (("settles",), ("hides", ()), ["hides", (), C], {"settles": ()}):
                self.assertFalse(self.assert_judged(OPEN_1, (1, 1), suite, other, paper))

    def test_papers_of_the_other_word(self):
        for rig, shape in tiny_cases()[::3]:
            suites = short_suites(rig, 3)
            for suite, other in zip(suites, suites[1:]):
                table = tuple(plain.both_outcomes(rig, shape, suite, other))
                for told in (table, table[::-1], table[1:], table + table[-1:], list(table), None):
                    self.assert_judged(rig, shape, suite, other, ("settles", told))
                every = plain.all_faults(rig, shape)
                for one, one_more in ((every[0], every[-1]), (every[-1], every[0]), (every[-1], every[-1]),
                                      (None, ())):
                    self.assert_judged(rig, shape, suite, other, ("hides", one, one_more))


class WrongInputs(unittest.TestCase):

    def test_lost(self):
        for value in NO_INTEGERS + (-1, 6, 10 ** 999, -10 ** 999):
            with self.assertRaises(BadNumber) as caught:
                names_without(OPEN_1, (1, 1), [(0,)], value)
            self.assertIs(caught.exception.value, value)

    def test_suites(self):
        for value, place in ((None, None), ([(0,)] * 41, None), ("0", None), ({}, None), ([(0,), (3,)], 1), ([[0]], 0),
                             (((0,), (1,), (True,)), 2), (0, None)):
            for call, given in ((settles, (value, None)), (settle_paper, (value, None)),
                                (check_settle, (value, None, 0)),
                                (translated, (value, None, None)), (settled_rows, (value,)), (kinds, (value,)),
                                (weak_rows, (value,)), (names_without, (value, None)), (settles, ([], value)),
                                (settle_paper, ([], value)), (check_settle, ([], value, None)),
                                (translated, ([], value, None))):
                with self.assertRaises(BadSuite) as caught:
                    call(OPEN_1, (1, 1), *given)
                self.assertEqual(caught.exception.place, place)

    def test_heard(self):
        for value in ODD + ((T, F), (T,) * 4, [T, F, T], (T, F, 1), (0, F, T), (T, None, F), ("T", "F", "T"),
                            ((T, F, T),)):
            with self.assertRaises(BadOutcomes) as caught:
                translated(WIDE, (3, 2), [(0,) * 5] * 3, [(0,) * 5], value)
            self.assertIs(caught.exception.value, value)
        # The outcomes are those of the suite, not of the other one.
        with self.assertRaises(BadOutcomes):
            translated(OPEN_1, (1, 1), [(0,)], [(0,), (1,)], (T, F))

    def test_which_error_comes_first(self):
        for call, given in ((settles, (None, None)), (settle_paper, (None, None)), (check_settle, (None, None, None)),
                            (translated, (None, None, None)), (settled_rows, (None,)), (kinds, (None,)),
                            (weak_rows, (None,)), (names_without, (None, None))):
            with self.assertRaises(BadRig):
                call(None, None, *given)
            with self.assertRaises(BadShape):
                call(WIDE, (0, 1), *given)
            with self.assertRaises(BadSuite):
                call(WIDE, (3, 2), *given)
        with self.assertRaises(BadNumber):
            names_without(WIDE, (3, 2), [], 6)

    def test_more_than_two_thousand_faults(self):
        zero = [(0,) * 5]
        for rig in (WIDE, OPEN_5):
            for call, given in ((settles, (zero, zero)), (settle_paper, (zero, zero)), (translated, (zero, zero, (T,))),
                                (settled_rows, (zero,)), (kinds, (zero,)), (weak_rows, (zero,)),
                                (names_without, (zero, 0)), (check_settle, (zero, zero, ("settles", ()))),
                                (check_settle, (zero, zero, ("settles", None)))):
                with self.assertRaises(TooGreat) as caught:
                    call(rig, (3, 2), *given)
                self.assertEqual(caught.exception.most, 2000)
            lots = tuple(((0, 0), (1, 0), (2, value)) for value in (0, 1))
            paper = ("hides", (), lots[1:])
            self.assertEqual(check_settle(rig, (3, 2), zero, [(0, 0, 1, 0, 0)], paper), "hides")
            for paper, word in ((("settles", (), ()), "form"), (("hides", (), lots[:1]), "hides"), (None, "form"),
                                (("hides", ()), "form"), (("hides", None, ()), "hides")):
                with self.assertRaises(BadPaper) as caught:
                    check_settle(rig, (3, 2), zero, [(0, 0, 1, 0, 0)], paper)
                self.assertEqual(caught.exception.word, word)

    def test_forty_rows(self):
        for rig, shape in ((OPEN_3, (2, 2)), (OPEN_1, (1, 2))):
            suite = (plain.let_rows(rig) * 40)[:40]
            self.assertIs(settles(rig, shape, suite, suite[::-1]), True)
            self.assertEqual(settled_rows(rig, shape, suite), plain.settled_rows(rig, shape, suite))
            self.assertIs(names_without(rig, shape, suite, 4), True)
            for call, given in ((settles, (suite, [])), (settles, ([], suite)), (kinds, (suite,)),
                                (weak_rows, (suite,))):
                call(rig, shape, *given)
                longer = [part + part[:1] if len(part) == 40 else part for part in given]
                with self.assertRaises(BadSuite) as caught:
                    call(rig, shape, *longer)
                self.assertIsNone(caught.exception.place)


if __name__ == "__main__":
    unittest.main()
