import unittest
from random import Random

from rowsthatname.errors import BadNumber, BadOutcomes, BadSuite
from rowsthatname.lean import idle_rows, lean_suite, needless_rows, next_row, split_by, worst_after
from rowsthatname.naming import names
from tests import plain
from tests.samples import (BARRED_2, NO_INTEGERS, NONE_LET, ODD, ONE_LET, OPEN_1, OPEN_2, OPEN_5, WIDE, small_cases,
                           suites_of, tiny_cases, turned)

ALL_ROWS = [(0,), (1,), (2,)]


class ByHand(unittest.TestCase):

    def test_rows_that_are_not_needed(self):
        self.assertEqual(needless_rows(OPEN_1, (1, 1), ALL_ROWS), ())
        self.assertEqual(needless_rows(OPEN_1, (1, 1), ALL_ROWS + [(1,)]), (1, 3))
        self.assertEqual(lean_suite(OPEN_1, (1, 1), ALL_ROWS + [(1,)]), ((0,), (2,), (1,)))
        self.assertEqual(lean_suite(OPEN_1, (1, 1), [(1,)] * 40), ((1,),))
        self.assertEqual(needless_rows(OPEN_1, (1, 1), []), ())
        self.assertEqual(lean_suite(OPEN_1, (1, 1), []), ())
        self.assertEqual(idle_rows(OPEN_1, (1, 1), [(1,)]), ((1,),))
        self.assertEqual(idle_rows(OPEN_1, (1, 1), []), ())
        self.assertEqual(idle_rows(OPEN_1, (1, 1), ALL_ROWS), tuple(ALL_ROWS))
        # Each of three rows alone is not needed, but once the first one is left out the others are.
        rig, suite = ((2, 2), ()), [(0, 0), (0, 1), (1, 0), (1, 1)]
        self.assertEqual(needless_rows(rig, (1, 1), suite), (0, 1, 2, 3))
        self.assertEqual(lean_suite(rig, (1, 1), suite), ((0, 1), (1, 0), (1, 1)))

    def test_halves(self):
        self.assertEqual(split_by(OPEN_1, (1, 2), [], (), (0,)), (3, 4))
        self.assertEqual(split_by(OPEN_1, (1, 2), [(1,)], (True,), (0,)), (1, 2))
        self.assertEqual(split_by(OPEN_1, (1, 2), [(1,)], (True,), (1,)), (3, 0))
        self.assertEqual(split_by(OPEN_1, (1, 2), [(1,)], (False,), (1,)), (0, 4))
        self.assertEqual(split_by(OPEN_1, (1, 2), ALL_ROWS, (True,) * 3, (1,)), (0, 0))
        self.assertEqual(next_row(OPEN_1, (1, 2), [], ()), (0,))
        self.assertEqual(next_row(OPEN_1, (1, 2), [(0,)], (True,)), (1,))
        self.assertEqual(worst_after(OPEN_1, (1, 2), [], ()), 4)
        self.assertEqual(worst_after(OPEN_1, (1, 2), [(0,)], (True,)), 2)
        self.assertEqual(worst_after(OPEN_1, (1, 1), [(0,)], (False,)), 2)

    def test_at_most_one_class_fits(self):
        for heard, many in (((True, True, True), 0), ((True, False, False), 1), ((False, False, False), 1)):
            self.assertIsNone(next_row(OPEN_1, (1, 2), ALL_ROWS, heard))
            self.assertEqual(worst_after(OPEN_1, (1, 2), ALL_ROWS, heard), many)
        self.assertIsNone(next_row(NONE_LET, (1, 2), [], ()))
        self.assertEqual(worst_after(NONE_LET, (1, 2), [], ()), 1)
        # All faults but none are alike here: two classes fit at first, one behind the one row.
        self.assertEqual(next_row(ONE_LET, (1, 2), [], ()), (1, 1))
        self.assertEqual(worst_after(ONE_LET, (1, 2), [], ()), 1)
        self.assertEqual(split_by(ONE_LET, (1, 2), [], (), (1, 1)), (1, 1))
        self.assertIsNone(next_row(ONE_LET, (1, 2), [(1, 1)], (True,)))
        self.assertEqual(worst_after(ONE_LET, (1, 2), [(1, 1)], (True,)), 1)

    def test_no_row_is_let(self):
        self.assertEqual(needless_rows(NONE_LET, (1, 2), []), ())
        self.assertEqual(lean_suite(NONE_LET, (1, 2), []), ())
        self.assertEqual(idle_rows(NONE_LET, (1, 2), []), ())


class ManyRigs(unittest.TestCase):

    def test_rows_that_are_not_needed(self):
        left = set()
        for rig, shape in tiny_cases()[::2]:
            for suite in suites_of(rig, 3, 10)[3:]:
                self.assertEqual(needless_rows(rig, shape, suite), plain.needless_rows(rig, shape, suite))
                self.assertEqual(idle_rows(rig, shape, suite), plain.idle_rows(rig, shape, suite))
                lean = plain.lean_suite(rig, shape, suite)
                self.assertEqual(lean_suite(rig, shape, suite), lean)
                self.assertEqual(needless_rows(rig, shape, lean), ())
                left.add((len(suite), len(lean)))
        self.assertGreater(len(left), 30)

    def test_more_faults(self):
        for rig, shape in small_cases()[::7]:
            for suite in suites_of(rig, 1, 12)[4:]:
                self.assertEqual(needless_rows(rig, shape, suite), plain.needless_rows(rig, shape, suite))
                lean = lean_suite(rig, shape, suite)
                self.assertEqual(lean, plain.lean_suite(rig, shape, suite))
                self.assertIs(names(rig, shape, lean), names(rig, shape, suite))

    def test_the_very_row_that_is_best(self):
        best = set()
        for rig, shape in small_cases()[::2]:
            rows = plain.let_rows(rig)
            if len(plain.all_faults(rig, shape)) > 120 or not rows:
                continue
            draw = Random(repr((rig, shape)))
            for suite in suites_of(rig, 2, 6)[4:]:
                told = plain.outcomes(draw.choice(plain.all_faults(rig, shape)), suite)
                for heard in (told, turned(told, draw.sample(range(len(suite)), 1 if suite else 0))):
                    self.assert_best(rig, shape, suite, heard)
                    best.add(next_row(rig, shape, suite, heard))
        self.assertGreater(len(best), 20)
        self.assertIn(None, best)

    def assert_best(self, rig, shape, suite, heard):
        rows = plain.let_rows(rig)
        halves = [plain.halves(rig, shape, suite, heard, row) for row in rows]
        for row, told in list(zip(rows, halves))[:5]:
            self.assertEqual(split_by(rig, shape, suite, heard, row), told)
        many = sum(halves[0])
        if many <= 1:
            self.assertIsNone(next_row(rig, shape, suite, heard))
            self.assertEqual(worst_after(rig, shape, suite, heard), many)
        else:
            greater = [max(told) for told in halves]
            self.assertEqual(next_row(rig, shape, suite, heard), rows[greater.index(min(greater))])
            self.assertEqual(worst_after(rig, shape, suite, heard), min(greater))

    def test_suites_of_forty_rows(self):
        rows = list((plain.let_rows(OPEN_5) * 2)[:40])
        self.assertEqual(len(lean_suite(OPEN_5, (1, 1), rows)), len(plain.lean_suite(OPEN_5, (1, 1), rows)))
        self.assertEqual(idle_rows(OPEN_5, (1, 1), rows), plain.let_rows(OPEN_5))
        self.assertEqual(needless_rows(OPEN_5, (1, 1), rows), tuple(range(40)))
        for call, rest in ((needless_rows, ()), (lean_suite, ()), (idle_rows, ()), (next_row, ((True,) * 41,))):
            with self.assertRaises(BadSuite) as caught:
                call(OPEN_5, (1, 1), rows + rows[:1], *rest)
            self.assertIsNone(caught.exception.place)

    def test_many_faults(self):
        rows = plain.let_rows(OPEN_5)
        self.assertEqual(needless_rows(OPEN_5, (2, 2), rows), tuple(range(32)))
        self.assertEqual(idle_rows(OPEN_5, (2, 2), rows), rows)
        self.assertEqual(worst_after(OPEN_5, (2, 2), rows, (False,) * 32), 1)
        self.assertEqual(idle_rows(WIDE, (1, 1), [(0, 0, 0, 0, 0)]), ((0, 0, 0, 0, 0),))
        self.assertEqual(split_by(WIDE, (1, 1), [], (), (3, 1, 2, 0, 0)), (5, 16))


class WrongInputs(unittest.TestCase):

    def test_rows_that_are_not_let(self):
        wrong = ODD + ((), (0,), (0, 0, 0), [0, 1], "01", b"\x00\x01", {0: 0, 1: 1}, ((0, 1),), (2, 0), (0, 3),
                       (-1, 0), (0, -1), (0, 10 ** 999), (0, 2), (1, 0), (0, 0, 0))
        wrong += tuple((value, 1) for value in NO_INTEGERS) + tuple((1, value) for value in NO_INTEGERS)
        for value in wrong:
            with self.assertRaises(BadNumber) as caught:
                split_by(BARRED_2, (1, 1), [(0, 0)], (False,), value)
            self.assertIs(caught.exception.value, value)
        with self.assertRaises(BadNumber):
            split_by(NONE_LET, (1, 1), [], (), (0, 0))

    def test_no_outcomes(self):
        for value in ODD + ((True,), (True, False, True), [True, False], (1, 0), (True, None), "TF"):
            for call, rest in ((split_by, ((0,),)), (next_row, ()), (worst_after, ())):
                with self.assertRaises(BadOutcomes) as caught:
                    call(OPEN_1, (1, 1), [(0,), (1,)], value, *rest)
                self.assertIs(caught.exception.value, value)

    def test_outcomes_that_are_wrong_in_one_place_do_not_fit(self):
        self.assertEqual(split_by(OPEN_2, (1, 1), [(0, 0), (0, 0)], (True, False), (0, 0)), (0, 0))
        self.assertEqual(worst_after(OPEN_2, (1, 1), [(0, 0), (0, 0)], (True, False)), 0)


if __name__ == "__main__":
    unittest.main()
