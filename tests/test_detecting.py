import unittest
from itertools import combinations

from rowsthatname.detecting import (check_detects, detect_paper, detects, first_detecting, hidden_behind, hidden_case,
                                    hidden_lots, least_shown, meeting_counts, suspects)
from rowsthatname.errors import BadNumber, BadOutcomes, BadPaper, BadSuite, TooGreat
from rowsthatname.naming import bears
from tests import plain
from tests.papers import NO_PAPERS, Judging, changes, is_detects, is_hidden
from tests.samples import (BARRED_2, NO_INTEGERS, NONE_LET, ODD, ONE_LET, OPEN_1, OPEN_2, OPEN_5, WIDE, small_cases,
                           suites_of, tiny_cases, turned)

LOT_A, LOT_B, LOT_C = ((0, 0),), ((0, 1),), ((0, 2),)
ALL_ROWS = [(0,), (1,), (2,)]


class Judged(Judging):
    """The papers of this part, and what takes them."""

    check = staticmethod(check_detects)
    forms = {"detects": (2, is_detects), "hidden": (3, is_hidden)}



class ByHand(Judged, unittest.TestCase):

    def test_one_knob(self):
        self.assertIs(detects(OPEN_1, (1, 2), ALL_ROWS, 0), True)
        self.assertIs(detects(OPEN_1, (1, 2), ALL_ROWS, 1), False)
        self.assertIs(detects(OPEN_1, (1, 1), ALL_ROWS[:2], 0), False)
        self.assertEqual(hidden_case(OPEN_1, (1, 1), ALL_ROWS[:2], 0), (LOT_C, ()))
        self.assertEqual(hidden_case(OPEN_1, (1, 1), ALL_ROWS, 1), (LOT_A, ()))
        self.assertIsNone(hidden_case(OPEN_1, (1, 1), ALL_ROWS * 3, 1))
        self.assertEqual(hidden_lots(OPEN_1, (1, 1), ALL_ROWS[1:2]), (LOT_A, LOT_C))
        self.assertEqual(hidden_lots(OPEN_1, (1, 1), []), (LOT_A, LOT_B, LOT_C))
        self.assertEqual(least_shown(OPEN_1, (1, 1), ALL_ROWS * 2 + [(1,)]), 2)
        self.assertEqual(meeting_counts(OPEN_1, (1, 1), ALL_ROWS * 2 + [(1,)]), ((LOT_A, 2), (LOT_B, 3), (LOT_C, 2)))

    def test_two_knobs(self):
        rows = plain.let_rows(OPEN_2)
        other = ((1, 0),), ((1, 1),)
        # Beside both values of the first knob no row shows anything.
        self.assertEqual(hidden_case(OPEN_2, (1, 2), rows, 0), (((1, 0),), (LOT_A, LOT_B)))
        self.assertEqual(hidden_lots(OPEN_2, (1, 2), rows), other + (((1, 2),),))
        self.assertEqual(hidden_case(OPEN_2, (1, 1), rows, 0), None)
        self.assertEqual(least_shown(OPEN_2, (1, 1), rows), 1)
        self.assertEqual(first_detecting(OPEN_2, (1, 1), rows), 6)
        self.assertEqual(first_detecting(OPEN_2, (1, 1), rows + rows), 6)
        self.assertEqual(first_detecting(OPEN_2, (1, 1), rows[:1] * 5 + rows), 11)
        self.assertIsNone(first_detecting(OPEN_2, (1, 1), rows[:5]))
        self.assertEqual([len(hidden_behind(OPEN_2, (1, 1), rows, many)) for many in range(7)], [5, 5, 4, 4, 3, 1, 0])

    def test_what_is_suspect(self):
        suite, heard = ALL_ROWS + [(0,), (0,)], (True, True, False, True, False)
        self.assertEqual(suspects(OPEN_1, (1, 1), suite, heard, 0), (LOT_B,))
        self.assertEqual(suspects(OPEN_1, (1, 1), suite, heard, 1), (LOT_A, LOT_B, LOT_C))
        self.assertEqual(suspects(OPEN_1, (1, 1), [(1,)], (False,), 0), (LOT_A, LOT_C))
        self.assertEqual(suspects(OPEN_1, (1, 1), [(1,)] * 6, (False,) * 6, 5), (LOT_A, LOT_C))
        self.assertEqual(suspects(OPEN_1, (1, 1), [(1,)] * 6, (False,) * 5 + (True,), 5), (LOT_A, LOT_B, LOT_C))
        self.assertEqual(suspects(OPEN_1, (1, 1), [], (), 0), (LOT_A, LOT_B, LOT_C))
        self.assertEqual(suspects(NONE_LET, (1, 1), [], (), 0), ())

    def test_no_lot_can_fail(self):
        for wrong in (0, 5):
            self.assertIs(detects(NONE_LET, (1, 2), [], wrong), True)
            self.assertIsNone(hidden_case(NONE_LET, (1, 2), [], wrong))
            self.assertEqual(detect_paper(NONE_LET, (1, 2), [], wrong), ("detects", ()))
            self.assertEqual(check_detects(NONE_LET, (1, 2), [], wrong, ("detects", ())), "detects")
        self.assertIsNone(least_shown(NONE_LET, (1, 2), []))
        self.assertEqual(hidden_lots(NONE_LET, (1, 2), []), ())
        self.assertEqual(first_detecting(NONE_LET, (1, 2), []), 0)
        self.assertEqual(hidden_behind(NONE_LET, (1, 2), [], 0), ())
        self.assertEqual(meeting_counts(NONE_LET, (1, 2), []), ())

    def test_all_faults_alike(self):
        # Each lot that can fail is met by the one let row, so none is shown beside another one.
        self.assertEqual(hidden_case(ONE_LET, (1, 1), [(1, 1)] * 9, 0), (((0, 1),), (((1, 1),),)))
        self.assertIs(detects(ONE_LET, (2, 2), [(1, 1)] * 9, 4), True)
        self.assertIs(detects(ONE_LET, (2, 2), [(1, 1)] * 9, 5), False)
        self.assertEqual(least_shown(ONE_LET, (2, 2), [(1, 1)] * 9), 9)

    def test_papers(self):
        self.assertEqual(check_detects(OPEN_1, (1, 1), ALL_ROWS * 2, 0, ("detects", ((0, 3),) * 3 + ((1,),) * 3
                                                                         + ((5,),) * 3)), "detects")
        for numbers in ((), (0,), (0, 3), (3,)):
            paper = ("detects", (numbers,) + ((0,),) * 2 + ((1,),) * 3 + ((2,),) * 3)
            if numbers:
                self.assertEqual(check_detects(OPEN_1, (1, 1), ALL_ROWS * 2, 0, paper), "detects")
            else:
                self.assert_bad(OPEN_1, (1, 1), ALL_ROWS * 2, 0, paper, "detects")
            self.assert_bad(OPEN_1, (1, 1), ALL_ROWS * 2, 1, paper, "detects")
        for numbers in ((3, 0), (0, 0), (0, 1), (6,), (-6,), (True,), (False,), (0, True), [0], (0, 3, 6), (None,)):
            paper = ("detects", (numbers,) + ((0,),) * 2 + ((1,),) * 3 + ((2,),) * 3)
            self.assert_bad(OPEN_1, (1, 1), ALL_ROWS * 2, 0, paper, "detects")
        self.assertEqual(check_detects(OPEN_1, (1, 1), ALL_ROWS, 1, ("hidden", LOT_B, (LOT_C,))), "hidden")
        self.assert_bad(OPEN_1, (1, 1), ALL_ROWS, 1, ("hidden", LOT_B, (LOT_B,)), "hidden")
        self.assert_bad(OPEN_1, (1, 1), ALL_ROWS, 1, ("hidden", LOT_B, (LOT_A, LOT_C)), "hidden")
        self.assertEqual(check_detects(OPEN_1, (1, 2), ALL_ROWS, 1, ("hidden", LOT_B, (LOT_A, LOT_C))), "hidden")
        self.assert_bad(OPEN_1, (1, 1), ALL_ROWS, 0, ("hidden", LOT_B, (LOT_C,)), "hidden")


class ManyRigs(unittest.TestCase):

    def test_all_cases(self):
        for rig, shape in tiny_cases():
            for suite in suites_of(rig, 4, 40)[1:]:
                shown = {case: len(plain.showing(suite, *case)) for case in plain.cases(rig, shape)}
                least = min(shown.values(), default=None)
                self.assertEqual(least_shown(rig, shape, suite), least)
                self.assertEqual(hidden_lots(rig, shape, suite),
                                 tuple(sorted({lot for (lot, _), many in shown.items() if many == 0})))
                for wrong in range(6):
                    self.assertIs(detects(rig, shape, suite, wrong), least is None or least > 2 * wrong)
                    self.assertEqual(hidden_case(rig, shape, suite, wrong), min(
                        [case for case, many in shown.items() if many <= 2 * wrong], default=None))

    def test_first_rows(self):
        detected = set()
        for rig, shape in tiny_cases():
            for suite in suites_of(rig, 2, 16)[4:]:
                hidden = [tuple(sorted({lot for lot, _ in plain.hidden_cases(rig, shape, suite[:many], 0)}))
                          for many in range(len(suite) + 1)]
                for many, lots in enumerate(hidden):
                    self.assertEqual(hidden_behind(rig, shape, suite, many), lots)
                first = hidden.index(()) if () in hidden else None
                self.assertEqual(first_detecting(rig, shape, suite), first)
                detected.add(first)
        self.assertGreater(len(detected), 7)

    def test_more_faults(self):
        for rig, shape in small_cases()[::5]:
            for suite in suites_of(rig, 1, 40)[2:]:
                lots = sorted(plain.can_fail(rig, shape[0]))
                self.assertEqual(meeting_counts(rig, shape, suite),
                                 tuple((lot, sum(plain.is_meeting(row, lot) for row in suite)) for lot in lots))
                self.assertIs(detects(rig, shape, suite, 0), hidden_lots(rig, shape, suite) == ())

    def test_suspects(self):
        for rig, shape in small_cases()[::6]:
            for suite in suites_of(rig, 2, 40)[3:]:
                for number, faults in enumerate(plain.all_faults(rig, shape)[:40:7]):
                    told = plain.outcomes(faults, suite)
                    for heard in (told, turned(told, range(number)), turned(told, range(0, len(suite), 3))):
                        for wrong in range(6):
                            self.assertEqual(suspects(rig, shape, suite, heard, wrong),
                                             plain.suspects(rig, shape, suite, heard, wrong))

    def test_one_kind_of_paper_and_it_is_taken(self):
        words = set()
        for rig, shape in tiny_cases()[::2]:
            for suite in suites_of(rig, 2, 40):
                for wrong in (0, 1, 5):
                    paper = detect_paper(rig, shape, suite, wrong)
                    word = "hidden" if plain.hidden_cases(rig, shape, suite, wrong) else "detects"
                    self.assertEqual(paper[0], word)
                    self.assertEqual(check_detects(rig, shape, suite, wrong, paper), word)
                    holds = {"detects": is_detects, "hidden": is_hidden}[word]
                    self.assertTrue(holds(rig, shape, suite, wrong, *paper[1:]))
                    words.add((word, wrong))
        self.assertEqual(len(words), 6)

    def test_the_fact_of_suspects(self):
        # What detects with W wrong outcomes does so for all faults and all turned outcomes; what does not, fails.
        tried = set()
        for rig, shape in tiny_cases():
            every = plain.all_faults(rig, shape)
            for suite in suites_of(rig, 3, 7) + [plain.let_rows(rig)[:2] * 3]:
                for wrong in (0, 1, 2):
                    if len(every) > 14 or len(suite) > 8 - wrong:
                        continue
                    does = all(self.are_just_suspects(rig, shape, suite, wrong, faults) for faults in every)
                    self.assertIs(detects(rig, shape, suite, wrong), does)
                    tried.add((wrong, does))
        self.assertEqual(len(tried), 6)

    def are_just_suspects(self, rig, shape, suite, wrong, faults):
        told = plain.outcomes(faults, suite)
        return all(suspects(rig, shape, suite, turned(told, numbers), wrong) == faults
                   for many in range(min(wrong, len(suite)) + 1)
                   for numbers in combinations(range(len(suite)), many))

    def test_the_fact_that_what_detects_bears(self):
        detecting = set()
        for rig, shape in tiny_cases():
            rows = plain.let_rows(rig)
            for suite in suites_of(rig, 2, 40) + [(rows * 11)[:40], (rows * 5)[:40], (rows * 3)[:40]]:
                for wrong in range(6):
                    if detects(rig, shape, suite, wrong):
                        self.assertIs(bears(rig, shape, suite, wrong), True)
                        detecting.add((wrong, len(suite) > 0))
        self.assertTrue({(wrong, True) for wrong in range(6)} <= detecting)


class Papers(Judged, unittest.TestCase):

    def test_papers_with_one_thing_changed(self):
        taken = {"detects": 0, "hidden": 0}
        for rig, shape, suite, wrong in (
                (OPEN_1, (1, 1), ALL_ROWS * 2, 0), (OPEN_1, (1, 1), ALL_ROWS, 1), (OPEN_1, (1, 2), ALL_ROWS, 0),
                (OPEN_1, (1, 1), tuple(ALL_ROWS) * 4, 1), (OPEN_2, (1, 2), plain.let_rows(OPEN_2), 0),
                (BARRED_2, (2, 1), [(0, 0), (1, 1), (1, 2), (1, 1), (0, 1)], 0), (NONE_LET, (1, 1), [], 5),
                (ONE_LET, (1, 2), [(1, 1)] * 40, 2), (ONE_LET, (2, 2), [(1, 1)] * 6, 2), (OPEN_2, (2, 2), [], 1)):
            paper = detect_paper(rig, shape, suite, wrong)
            self.assertTrue(self.assert_judged(rig, shape, suite, wrong, paper))
            for other in changes(paper):
                taken[paper[0]] += self.assert_judged(rig, shape, suite, wrong, other)
        # Where there are more rows than needed, one may be left out; and there are other hidden cases.
        self.assertGreater(taken["detects"], 10)
        self.assertGreater(taken["hidden"], 10)

    def test_no_papers(self):
        for suite in ([], ALL_ROWS * 3):
            for wrong in (0, 1, 5):
                for paper in NO_PAPERS + ODD:
                    self.assertFalse(self.assert_judged(OPEN_1, (1, 1), suite, wrong, paper))

    def test_all_hidden_papers_of_a_rig(self):
        taken = 0
        for suite in ([(0, 0), (1, 2), (1, 1)], plain.let_rows(OPEN_2)):
            for shape in ((1, 1), (1, 2), (2, 1)):
                for lot in plain.lots_of((2, 3), 1) + plain.lots_of((2, 3), 2):
                    for faults in plain.all_faults(OPEN_2, shape) + ((((0, 0), (1, 2)),),):
                        taken += self.assert_judged(OPEN_2, shape, suite, 0, ("hidden", lot, faults))
        self.assertGreater(taken, 20)

    def test_papers_of_the_other_word(self):
        for rig, shape in tiny_cases():
            for suite in suites_of(rig, 1, 9)[4:]:
                every = plain.cases(rig, shape)
                told = tuple(tuple(plain.showing(suite, *case)) for case in every)
                for wrong in (0, 2):
                    self.assert_judged(rig, shape, suite, wrong, ("detects", told))
                    for lot, faults in every[:3]:
                        self.assert_judged(rig, shape, suite, wrong, ("hidden", lot, faults))


class WrongInputs(unittest.TestCase):

    def test_numbers_of_wrong_outcomes(self):
        for value in NO_INTEGERS + (-1, 6, 10 ** 999, -10 ** 999):
            for call, rest in ((detects, ()), (hidden_case, ()), (detect_paper, ()), (check_detects, (None,))):
                with self.assertRaises(BadNumber) as caught:
                    call(OPEN_1, (1, 1), ALL_ROWS, value, *rest)
                self.assertIs(caught.exception.value, value)
            with self.assertRaises(BadNumber) as caught:
                suspects(OPEN_1, (1, 1), ALL_ROWS, (True,) * 3, value)
            self.assertIs(caught.exception.value, value)

    def test_no_outcomes(self):
        for value in ODD + ((True, True), (True,) * 4, [True] * 3, (1, 1, 1), (True, True, None), "TTT"):
            with self.assertRaises(BadOutcomes) as caught:
                suspects(OPEN_1, (1, 1), ALL_ROWS, value, 0)
            self.assertIs(caught.exception.value, value)

    def test_how_many_first_rows(self):
        for suite in ([], ALL_ROWS, [(0,)] * 40):
            hidden_behind(OPEN_1, (1, 1), suite, 0)
            self.assertEqual(hidden_behind(OPEN_1, (1, 1), suite, len(suite)), hidden_lots(OPEN_1, (1, 1), suite))
            for value in NO_INTEGERS + (-1, len(suite) + 1, 41, 10 ** 999, -10 ** 999):
                with self.assertRaises(BadNumber) as caught:
                    hidden_behind(OPEN_1, (1, 1), suite, value)
                self.assertIs(caught.exception.value, value)

    def test_forty_rows_and_more(self):
        calls = ((detects, (5,)), (hidden_case, (5,)), (least_shown, ()), (hidden_lots, ()), (detect_paper, (0,)),
                 (first_detecting, ()), (hidden_behind, (7,)), (meeting_counts, ()))
        for call, rest in calls:
            call(OPEN_1, (1, 1), [(0,)] * 40, *rest)
            with self.assertRaises(BadSuite) as caught:
                call(OPEN_1, (1, 1), [(0,)] * 41, *rest)
            self.assertIsNone(caught.exception.place)

    def test_not_too_great(self):
        row, lot = (0, 0, 0, 0, 0), ((0, 0), (1, 0), (2, 0))
        self.assertEqual(len(suspects(WIDE, (3, 2), [row], (False,), 0)), 630)
        self.assertIn((lot, 1), meeting_counts(WIDE, (3, 2), [row]))
        self.assertEqual(len(meeting_counts(WIDE, (3, 2), [row])), 640)
        self.assertEqual(check_detects(WIDE, (3, 2), [row] * 2, 1, ("hidden", lot, ())), "hidden")
        for numbers in ((), None, ((0,),)):
            with self.assertRaises(TooGreat):
                check_detects(WIDE, (3, 2), [row] * 2, 1, ("detects", numbers))

    def test_many_faults(self):
        rows = plain.let_rows(OPEN_5)
        self.assertIs(detects(OPEN_5, (2, 2), rows, 0), False)
        self.assertEqual(least_shown(OPEN_5, (2, 1), rows), 4)
        self.assertEqual(least_shown(OPEN_5, (3, 1), rows), 2)
        paper = detect_paper(OPEN_5, (2, 1), rows, 1)
        self.assertEqual(check_detects(OPEN_5, (2, 1), rows, 1, paper), "detects")


if __name__ == "__main__":
    unittest.main()
