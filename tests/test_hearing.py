import unittest
from itertools import combinations
from random import Random

from rowsthatname.errors import BadNumber, BadOutcomes
from rowsthatname.hearing import (fitting, fitting_classes, is_named, least_wrong, possible_lots, sure_lots, verdict,
                                  wrong_rows)
from tests import plain
from tests.samples import (NO_INTEGERS, NONE_LET, ODD, ONE_LET, OPEN_1, OPEN_2, OPEN_5, small_cases, suites_of,
                           tiny_cases, turned)

LOT_A, LOT_B, LOT_C = ((0, 0),), ((0, 1),), ((0, 2),)
A, B, C = (LOT_A,), (LOT_B,), (LOT_C,)
ALL_ROWS = [(0,), (1,), (2,)]
TOLD = (fitting, fitting_classes, is_named, sure_lots, possible_lots, wrong_rows)


def heard_of(rig, shape, suite):
    """What may be heard of a suite: outcomes by some faults, the same with some turned, and any others."""
    draw = Random(repr((rig, shape, suite)))
    every = plain.all_faults(rig, shape)
    for faults in draw.sample(every, min(3, len(every))):
        told = plain.outcomes(faults, suite)
        yield told
        yield turned(told, draw.sample(range(len(suite)), min(len(suite), draw.randint(1, 5))))
    yield tuple(draw.random() < 0.5 for _ in suite)
    yield (True,) * len(suite)


class ByHand(unittest.TestCase):

    def test_what_fits(self):
        heard = (True, False, False)
        self.assertEqual(fitting(OPEN_1, (1, 1), ALL_ROWS, heard, 0), (A,))
        self.assertEqual(fitting(OPEN_1, (1, 1), ALL_ROWS, heard, 1), ((), A))
        self.assertEqual(fitting(OPEN_1, (1, 2), ALL_ROWS, heard, 1), ((), A, A + B, A + C))
        self.assertEqual(fitting(OPEN_1, (1, 1), ALL_ROWS, heard, 2), ((), A, B, C))
        self.assertEqual(fitting(OPEN_1, (1, 1), ALL_ROWS, (True, True, True), 0), ())
        self.assertEqual(fitting(OPEN_1, (1, 1), ALL_ROWS, (True, True, True), 1), ())
        self.assertEqual(fitting(OPEN_1, (1, 1), [], (), 0), ((), A, B, C))

    def test_classes(self):
        other = (((1, 1),),)
        both = (B[0], other[0])
        self.assertEqual(fitting_classes(ONE_LET, (1, 2), [(1, 1)], (True,), 0), ((B, both, other),))
        self.assertEqual(fitting_classes(ONE_LET, (1, 2), [(1, 1)], (False,), 0), (((),),))
        self.assertEqual(fitting_classes(ONE_LET, (1, 2), [(1, 1)], (False,), 1), (((),), (B, both, other)))
        self.assertIs(is_named(ONE_LET, (1, 2), [(1, 1)], (True,), 0), True)
        self.assertIs(is_named(ONE_LET, (1, 2), [(1, 1)], (True,), 1), False)
        self.assertIs(is_named(ONE_LET, (1, 2), [], (), 0), False)
        self.assertIs(is_named(OPEN_1, (1, 1), ALL_ROWS, (True, True, True), 0), False)

    def test_verdicts(self):
        heard = (True, False, False)
        for wrong, told in ((0, ("fails", "good", "good")), (1, ("may", "good", "good")), (2, ("may", "may", "may"))):
            for lot, word in zip((LOT_A, LOT_B, LOT_C), told):
                self.assertEqual(verdict(OPEN_1, (1, 1), ALL_ROWS, heard, wrong, lot), word)
        self.assertIsNone(verdict(OPEN_1, (1, 1), ALL_ROWS, (True, True, True), 0, LOT_A))
        self.assertEqual(verdict(OPEN_1, (1, 2), ALL_ROWS, (True, True, False), 0, LOT_B), "fails")

    def test_lots(self):
        heard = (True, True, False)
        self.assertEqual(sure_lots(OPEN_1, (1, 2), ALL_ROWS, heard, 0), (LOT_A, LOT_B))
        self.assertEqual(sure_lots(OPEN_1, (1, 2), ALL_ROWS, heard, 1), ())
        self.assertEqual(possible_lots(OPEN_1, (1, 2), ALL_ROWS, heard, 1), (LOT_A, LOT_B))
        self.assertEqual(possible_lots(OPEN_1, (1, 2), ALL_ROWS, heard, 2), (LOT_A, LOT_B, LOT_C))
        self.assertEqual(sure_lots(OPEN_1, (1, 1), ALL_ROWS, (False,) * 3, 0), ())
        self.assertEqual(possible_lots(OPEN_1, (1, 1), ALL_ROWS, (False,) * 3, 0), ())
        # No faults fit.
        self.assertIsNone(sure_lots(OPEN_1, (1, 1), ALL_ROWS, heard, 0))
        self.assertEqual(possible_lots(OPEN_1, (1, 1), ALL_ROWS, heard, 0), ())
        self.assertIsNone(wrong_rows(OPEN_1, (1, 1), ALL_ROWS, heard, 0))

    def test_wrong_rows_and_least_wrong(self):
        suite, heard = [(0,), (0,), (1,), (0,)], (True, True, False, False)
        self.assertEqual(wrong_rows(OPEN_1, (1, 1), suite, heard, 1), (3,))
        self.assertEqual(wrong_rows(OPEN_1, (1, 1), suite, heard, 2), ())
        self.assertEqual(wrong_rows(OPEN_1, (1, 1), suite, (True, True, True, False), 2), ())
        self.assertEqual(wrong_rows(OPEN_1, (1, 1), [(0,)] + suite, (True, True, True, True, False), 2), (3, 4))
        self.assertEqual(wrong_rows(OPEN_1, (1, 1), [], (), 5), ())
        self.assertEqual(least_wrong(OPEN_1, (1, 1), suite, heard), 1)
        self.assertEqual(least_wrong(OPEN_1, (1, 1), [], ()), 0)
        self.assertEqual(least_wrong(OPEN_1, (1, 1), [(0,)] * 20 + [(1,)] * 20, (True,) * 40), 20)
        self.assertEqual(least_wrong(NONE_LET, (1, 1), [], ()), 0)

    def test_no_row_is_let(self):
        for wrong in (0, 5):
            self.assertEqual(fitting(NONE_LET, (1, 2), [], (), wrong), ((),))
            self.assertEqual(fitting_classes(NONE_LET, (1, 2), [], (), wrong), (((),),))
            self.assertIs(is_named(NONE_LET, (1, 2), [], (), wrong), True)
            self.assertEqual(sure_lots(NONE_LET, (1, 2), [], (), wrong), ())
            self.assertEqual(wrong_rows(NONE_LET, (1, 2), [], (), wrong), ())
            self.assertIsNone(verdict(NONE_LET, (1, 2), [], (), wrong, LOT_A))

    def test_five_wrong_outcomes(self):
        suite = [(0,)] * 11
        told = (True,) * 6 + (False,) * 5
        self.assertEqual(fitting(OPEN_1, (1, 1), suite, told, 5), (A,))
        self.assertEqual(fitting(OPEN_1, (1, 1), suite, told, 4), ())
        self.assertEqual(wrong_rows(OPEN_1, (1, 1), suite, told, 5), (6, 7, 8, 9, 10))


class ManyRigs(unittest.TestCase):

    def assert_told(self, rig, shape, suite, heard, wrong):
        given = (rig, shape, suite, heard, wrong)
        fit = plain.fitting(*given)
        groups = plain.fitting_classes(*given)
        self.assertEqual(fitting(*given), fit)
        self.assertEqual(fitting_classes(*given), groups)
        self.assertIs(is_named(*given), len(groups) == 1)
        self.assertEqual(wrong_rows(*given), plain.wrong_rows(*given))
        common = set.intersection(*[set(faults) for faults in fit]) if fit else None
        self.assertEqual(sure_lots(*given), None if common is None else tuple(sorted(common)))
        self.assertEqual(possible_lots(*given), tuple(sorted({lot for faults in fit for lot in faults})))
        return fit

    def test_all_kinds_of_outcomes(self):
        fitted = set()
        for rig, shape in small_cases()[::4]:
            if len(plain.all_faults(rig, shape)) > 150:
                continue
            for suite in suites_of(rig, 1, 20)[2:]:
                for heard in heard_of(rig, shape, suite):
                    for wrong in (0, 1, 5):
                        fit = self.assert_told(rig, shape, suite, heard, wrong)
                        fitted.add((wrong, min(2, len(fit))))
        self.assertEqual(len(fitted), 9)

    def test_all_outcomes_of_short_suites(self):
        for rig, shape in tiny_cases()[::6]:
            for suite in suites_of(rig, 2, 4)[4:]:
                for number in range(1 << len(suite)):
                    heard = tuple(number >> place & 1 == 1 for place in range(len(suite)))
                    self.assert_told(rig, shape, suite, heard, number % 6)

    def test_verdicts_of_all_lots(self):
        words = set()
        for rig, shape in tiny_cases()[::3]:
            for suite in suites_of(rig, 1, 9)[2:]:
                for heard in heard_of(rig, shape, suite):
                    for lot in plain.can_fail(rig, shape[0])[::3]:
                        for wrong in (0, 2):
                            word = plain.verdict(rig, shape, suite, heard, wrong, lot)
                            self.assertEqual(verdict(rig, shape, suite, heard, wrong, lot), word)
                            words.add(word)
        self.assertEqual(words, {"fails", "may", "good", None})

    def test_least_wrong(self):
        found = set()
        for rig, shape in tiny_cases():
            for suite in suites_of(rig, 2, 30)[2:]:
                for heard in heard_of(rig, shape, suite):
                    least = min(plain.differing(plain.outcomes(faults, suite), heard)
                                for faults in plain.all_faults(rig, shape))
                    self.assertEqual(least_wrong(rig, shape, suite, heard), least)
                    found.add(least)
                    if least <= 5:
                        self.assertNotEqual(fitting(rig, shape, suite, heard, least), ())
                    if 0 < least <= 6:
                        self.assertEqual(fitting(rig, shape, suite, heard, least - 1), ())
        self.assertGreater(max(found), 6)

    def test_true_faults_always_fit(self):
        for rig, shape in tiny_cases()[::5]:
            for suite in suites_of(rig, 1, 6)[5:]:
                for faults in plain.all_faults(rig, shape)[::3]:
                    for numbers in combinations(range(len(suite)), min(2, len(suite))):
                        heard = turned(plain.outcomes(faults, suite), numbers)
                        self.assertIn(faults, fitting(rig, shape, suite, heard, 2))


class WrongInputs(unittest.TestCase):

    def test_no_outcomes(self):
        wrong = [(True,), (True, False), (True, False, True, False), [True, False, True], "TFT", b"\x01\x00\x01",
                 {0: True, 1: False, 2: True}, (1, 0, 1), (True, False, 1), (0, True, False), (True, None, False),
                 (True, "", False), ((True,), False, True), ((True, False, True),), (True, False, [])]
        wrong += [(True, value, False) for value in NO_INTEGERS if not isinstance(value, bool)]
        for value in wrong + list(ODD):
            for call in TOLD:
                self.assert_no_outcomes(call, (OPEN_1, (1, 1), ALL_ROWS, value, 0), value)
            self.assert_no_outcomes(least_wrong, (OPEN_1, (1, 1), ALL_ROWS, value), value)
            self.assert_no_outcomes(verdict, (OPEN_1, (1, 1), ALL_ROWS, value, 0, LOT_A), value)

    def assert_no_outcomes(self, call, given, value):
        with self.assertRaises(BadOutcomes) as caught:
            call(*given)
        self.assertIs(caught.exception.value, value)

    def test_numbers_of_wrong_outcomes(self):
        for value in NO_INTEGERS + (-1, 6, 10 ** 999, -10 ** 999):
            for call in TOLD + (verdict,):
                rest = (LOT_A,) if call is verdict else ()
                with self.assertRaises(BadNumber) as caught:
                    call(OPEN_1, (1, 1), ALL_ROWS, (True,) * 3, value, *rest)
                self.assertIs(caught.exception.value, value)

    def test_verdict_of_what_cannot_fail(self):
        values = ODD + ((), ((0, 2),), ((1, 3),), ((0, 0), (1, 0)), [(0, 0)], ((0, 0),) * 2, ([0, 0],), ((0, False),),
                        ((False, 0),), ((True, 0),), (((0, 0),),), ((2, 0),), ((-1, 0),), ((0, -1),))
        for value in values:
            self.assertIsNone(verdict(OPEN_2, (1, 2), [], (), 0, value))
            self.assertIsNone(verdict(OPEN_2, (1, 1), [(0, 0)], (True,), 0, value))
        for lot in ((0, 0), (1, 1)), ((0, 1), (1, 2)):
            self.assertEqual(verdict(OPEN_2, (2, 2), [], (), 0, lot), "may")
            self.assertIsNone(verdict(OPEN_2, (1, 2), [], (), 0, lot))
        # No let row meets it.
        self.assertIsNone(verdict(ONE_LET, (1, 2), [], (), 0, ((0, 0),)))
        self.assertEqual(verdict(ONE_LET, (1, 2), [], (), 0, ((0, 1),)), "may")

    def test_many_faults(self):
        rows = plain.let_rows(OPEN_5)
        faults = (((0, 0), (1, 1)), ((2, 1), (4, 0)))
        heard = turned(plain.outcomes(faults, rows), (3,))
        self.assertEqual(fitting(OPEN_5, (2, 2), rows, heard, 1), (faults,))
        self.assertEqual(sure_lots(OPEN_5, (2, 2), rows, heard, 1), faults)
        self.assertEqual(wrong_rows(OPEN_5, (2, 2), rows, heard, 1), (3,))
        self.assertEqual(least_wrong(OPEN_5, (2, 2), rows, heard), 1)


if __name__ == "__main__":
    unittest.main()
