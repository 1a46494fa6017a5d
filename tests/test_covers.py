import unittest
from itertools import combinations

from rowsthatname.covers import (check_cover, cover_paper, enough_settings, greedy_cover, is_cover, lacking,
                                 least_met, strength)
from rowsthatname.errors import BadNumber, BadPaper, BadSuite, TooGreat
from rowsthatname.naming import bears, names
from tests import plain
from tests.papers import NO_PAPERS, Judging, changes, is_covers, is_lacks
from tests.samples import (BARRED_2, BARRED_3, NO_INTEGERS, NONE_LET, ODD, ONE_LET, OPEN_1, OPEN_2, OPEN_3, OPEN_5,
                           RIGS, SIX_BARRED, WIDE, shapes_of, small_cases, suites_of)

# Forty and forty-one of 48 rows are let.
FORTY = ((4, 4, 3), (((0, 0), (1, 0)), ((0, 1), (1, 1)), ((0, 2), (1, 2), (2, 0)), ((0, 2), (1, 2), (2, 1))))
FORTY_ONE = (FORTY[0], FORTY[1][:3])
FIVE_BARRED = ((2, 2, 2, 2, 2), (((0, 0), (1, 0), (2, 0)), ((3, 1), (4, 1))))


def sizes_of(rig):
    """All numbers of settings that may be asked for."""
    return range(1, len(rig[0]) + 1)


class Judged(Judging):
    """The papers of this part, and what takes them."""

    check = staticmethod(check_cover)
    forms = {"covers": (2, is_covers), "lacks": (3, is_lacks)}



class ByHand(Judged, unittest.TestCase):

    def test_two_knobs(self):
        suite = [(0, 0), (1, 1)]
        self.assertEqual(lacking(OPEN_2, 1, suite), (((1, 2),),))
        self.assertIs(is_cover(OPEN_2, 1, suite), False)
        self.assertIs(is_cover(OPEN_2, 1, suite + [(0, 2)]), True)
        self.assertEqual(lacking(OPEN_2, 2, suite), (((0, 0), (1, 1)), ((0, 0), (1, 2)), ((0, 1), (1, 0)),
                                                     ((0, 1), (1, 2))))
        self.assertEqual(strength(OPEN_2, suite), 0)
        self.assertEqual(strength(OPEN_2, suite + [(0, 2)]), 1)
        self.assertEqual(strength(OPEN_2, plain.let_rows(OPEN_2)), 2)
        self.assertEqual(least_met(OPEN_2, 1, suite), 0)
        self.assertEqual(least_met(OPEN_2, 1, plain.let_rows(OPEN_2)), 2)
        self.assertEqual(least_met(OPEN_2, 2, plain.let_rows(OPEN_2) * 2), 2)
        self.assertEqual(least_met(OPEN_2, 2, list(plain.let_rows(OPEN_2) * 3)[:17]), 2)

    def test_lots_of_four_and_five_settings(self):
        rows = plain.let_rows(OPEN_5)
        self.assertEqual(len(lacking(OPEN_5, 4, [])), 80)
        self.assertEqual(len(lacking(OPEN_5, 5, rows[:1])), 31)
        self.assertEqual(lacking(OPEN_5, 5, rows[:31]), (((0, 1), (1, 1), (2, 1), (3, 1), (4, 1)),))
        self.assertEqual(lacking(OPEN_5, 5, rows), ())
        even = [row for row in rows if sum(row) in (0, 2, 4)]
        self.assertEqual(strength(OPEN_5, even), 4)
        self.assertEqual(least_met(OPEN_5, 4, even), 1)
        self.assertEqual(least_met(OPEN_5, 3, even), 2)
        self.assertEqual(least_met(OPEN_5, 4, rows), 2)
        self.assertEqual(strength(OPEN_5, rows), 5)

    def test_barred_lots_are_not_asked_for(self):
        self.assertEqual(lacking(BARRED_2, 2, []), (((0, 0), (1, 0)), ((0, 0), (1, 1)), ((0, 1), (1, 1)),
                                                    ((0, 1), (1, 2))))
        self.assertEqual(strength(BARRED_2, [(0, 0), (1, 2), (0, 1), (1, 1)]), 2)
        self.assertEqual(lacking(ONE_LET, 1, []), (((0, 1),), ((1, 1),)))
        self.assertEqual(strength(ONE_LET, [(1, 1)]), 2)
        self.assertEqual(strength(ONE_LET, []), 0)

    def test_no_row_is_let(self):
        for size in (1, 2):
            self.assertEqual(lacking(NONE_LET, size, []), ())
            self.assertIs(is_cover(NONE_LET, size, ()), True)
            self.assertIsNone(least_met(NONE_LET, size, []))
            self.assertEqual(greedy_cover(NONE_LET, size), ())
            self.assertEqual(cover_paper(NONE_LET, size, []), ("covers", ()))
            self.assertEqual(check_cover(NONE_LET, size, [], ("covers", ())), "covers")
        self.assertEqual(strength(NONE_LET, []), 2)

    def test_enough_settings(self):
        self.assertEqual(enough_settings(WIDE, (1, 1)), 2)
        self.assertEqual(enough_settings(WIDE, (1, 2)), 3)
        self.assertEqual(enough_settings(WIDE, (2, 1)), 3)
        self.assertEqual(enough_settings(WIDE, (2, 2)), 4)
        self.assertEqual(enough_settings(WIDE, (3, 2)), 5)
        self.assertEqual(enough_settings(((3, 3), ()), (1, 2)), 2)
        self.assertEqual(enough_settings(((3, 4, 3), ()), (3, 2)), 3)
        self.assertEqual(enough_settings(OPEN_1, (1, 1)), 1)
        # Two values are more than one, and no more than two.
        self.assertEqual(enough_settings(OPEN_5, (3, 1)), 4)
        self.assertIsNone(enough_settings(OPEN_5, (3, 2)))
        self.assertIsNone(enough_settings(((4, 4, 2, 4), ()), (1, 2)))
        self.assertEqual(enough_settings(((4, 4, 2, 4), ()), (1, 1)), 2)
        # Barred lots are not allowed, even where they bar nothing that is not barred already.
        for shape in ((1, 1), (1, 2)):
            self.assertIsNone(enough_settings(((4, 4), (((0, 0), (1, 0)),)), shape))
            self.assertIsNone(enough_settings(NONE_LET, shape))

    def test_greedy_covers(self):
        self.assertEqual(greedy_cover(OPEN_1, 1), ((0,), (1,), (2,)))
        self.assertEqual(greedy_cover(OPEN_2, 1), ((0, 0), (1, 1), (0, 2)))
        self.assertEqual(greedy_cover(OPEN_3, 2), ((0, 0, 0), (0, 1, 1), (1, 0, 1), (1, 1, 0)))
        self.assertEqual(greedy_cover(BARRED_2, 1), ((0, 0), (1, 1), (1, 2)))
        self.assertEqual(greedy_cover(ONE_LET, 2), ((1, 1),))

    def test_papers(self):
        suite = [(0, 0), (1, 1), (0, 2), (0, 0)]
        for numbers in ((0, 1, 0, 1, 2), (3, 1, 0, 1, 2), (2, 1, 3, 1, 2)):
            self.assertEqual(check_cover(OPEN_2, 1, suite, ("covers", numbers)), "covers")
        for numbers in ((0, 1, 0, 1), (0, 1, 0, 1, 2, 2), (1, 1, 0, 1, 2), (4, 1, 0, 1, 2), (-1, 1, 0, 1, 2),
                        (False, 1, 0, 1, 2), [0, 1, 0, 1, 2], (0, 1, 0, True, 2), (None, 1, 0, 1, 2), None):
            self.assert_bad(OPEN_2, 1, suite, ("covers", numbers), "covers")
        for lot, row in ((((0, 1), (1, 0)), (1, 0)), (((0, 1), (1, 2)), (1, 2))):
            self.assertEqual(check_cover(OPEN_2, 2, suite, ("lacks", lot, row)), "lacks")
            self.assert_bad(OPEN_2, 1, suite, ("lacks", lot, row), "lacks")
            self.assert_bad(OPEN_2, 2, suite, ("lacks", lot, (1, 1)), "lacks")
            self.assert_bad(OPEN_2, 2, suite, ("lacks", lot[::-1], row), "lacks")
        self.assert_bad(BARRED_2, 2, [], ("lacks", ((0, 0), (1, 2)), (0, 2)), "lacks")
        self.assertEqual(check_cover(OPEN_5, 5, [], ("lacks", tuple(enumerate((0, 1, 1, 0, 1))), (0, 1, 1, 0, 1))),
                         "lacks")
        self.assertEqual(check_cover(OPEN_5, 4, [], ("lacks", ((0, 0), (2, 1), (3, 0), (4, 1)), (0, 1, 1, 0, 1))),
                         "lacks")


class ManyRigs(unittest.TestCase):

    def test_lots_that_are_lacking(self):
        for rig in RIGS + (FIVE_BARRED,):
            for suite in suites_of(rig, 3, 40):
                covered = [0]
                for size in sizes_of(rig):
                    lots = plain.lacking(rig, size, suite)
                    self.assertEqual(lacking(rig, size, suite), lots)
                    self.assertIs(is_cover(rig, size, suite), lots == ())
                    self.assertEqual(least_met(rig, size, suite), plain.least_met(rig, size, suite))
                    covered += [size] if lots == () else []
                self.assertEqual(strength(rig, suite), max(covered))
                # A cover of more settings is one of fewer.
                self.assertEqual(covered, list(range(len(covered))))

    def test_greedy_covers_row_by_row(self):
        many = set()
        for rig in RIGS + (FIVE_BARRED,):
            for size in sizes_of(rig):
                taken = plain.greedy_cover(rig, size)
                many.add(len(taken))
                if len(taken) <= 40:
                    self.assertEqual(greedy_cover(rig, size), taken)
                    self.assertIs(is_cover(rig, size, taken), True)
                else:
                    with self.assertRaises(TooGreat) as caught:
                        greedy_cover(rig, size)
                    self.assertEqual(caught.exception.most, 40)
        self.assertGreater(len(many), 15)

    def test_greedy_covers_of_forty_rows_and_of_more(self):
        self.assertEqual(len(plain.let_rows(FORTY)), 40)
        self.assertEqual(greedy_cover(FORTY, 3), plain.let_rows(FORTY))
        self.assertEqual(len(plain.let_rows(FORTY_ONE)), 41)
        for rig, size in ((FORTY_ONE, 3), (WIDE, 3), (WIDE, 5)):
            with self.assertRaises(TooGreat) as caught:
                greedy_cover(rig, size)
            self.assertEqual(caught.exception.most, 40)
        self.assertEqual(len(greedy_cover(WIDE, 1)), 4)
        with self.assertRaises(BadNumber):
            greedy_cover(WIDE, 6)

    def test_one_kind_of_paper_and_it_is_taken(self):
        words = set()
        for rig in RIGS + (FIVE_BARRED,):
            for size in sizes_of(rig):
                for suite in suites_of(rig, 3, 40):
                    paper = cover_paper(rig, size, suite)
                    word = "lacks" if plain.lacking(rig, size, suite) else "covers"
                    self.assertEqual(paper[0], word)
                    self.assertEqual(check_cover(rig, size, suite, paper), word)
                    self.assertTrue({"covers": is_covers, "lacks": is_lacks}[word](rig, size, suite, *paper[1:]))
                    words.add((word, size))
        self.assertEqual(len(words), 10)

    def test_the_fact_of_enough_settings(self):
        told = set()
        for rig, shape in small_cases():
            size = enough_settings(rig, shape)
            wanted = rig[1] == () and all(many > shape[1] for many in rig[0])
            self.assertEqual(size, min(sum(shape), len(rig[0])) if wanted else None)
            if size is None:
                continue
            rows = plain.let_rows(rig)
            for suite in (plain.greedy_cover(rig, size), rows, rows[::-1], rows * 3, rows * 7):
                if len(suite) > 40 or not is_cover(rig, size, suite):
                    continue
                self.assertIs(names(rig, shape, suite), True)
                for wrong in range(6):
                    if least_met(rig, size, suite) > 2 * wrong:
                        self.assertIs(bears(rig, shape, suite, wrong), True)
                        told.add((shape, wrong))
        self.assertTrue({wrong for _, wrong in told} >= {0, 1, 2})
        self.assertEqual({shape for shape, _ in told}, {(1, 1), (1, 2), (2, 1), (2, 2), (3, 1), (3, 2)})

    def test_the_fact_of_enough_settings_for_all_covers(self):
        rows, tried = plain.let_rows(((2, 2, 2), ())), 0
        for many in range(5, 8):
            for suite in combinations(rows, many):
                for shape in ((1, 1), (2, 1), (3, 1)):
                    if is_cover(((2, 2, 2), ()), enough_settings(((2, 2, 2), ()), shape), suite):
                        self.assertIs(names(((2, 2, 2), ()), shape, suite), True)
                        tried += 1
        self.assertGreater(tried, 20)


class Papers(Judged, unittest.TestCase):

    def test_papers_with_one_thing_changed(self):
        taken = {"covers": 0, "lacks": 0}
        four = tuple(row for row in plain.let_rows(OPEN_5) if sum(row) < 4)
        for rig, size, suite in (
                (OPEN_2, 1, [(0, 0), (1, 1), (0, 2), (0, 0), (1, 2)]), (OPEN_2, 2, plain.let_rows(OPEN_2) * 2),
                (OPEN_2, 2, []), (OPEN_3, 2, [(0, 0, 0), (1, 1, 1)]), (BARRED_3, 3, list(plain.let_rows(BARRED_3))),
                (OPEN_5, 4, four), (OPEN_5, 5, four), (NONE_LET, 1, []), (ONE_LET, 2, [(1, 1)] * 40),
                (SIX_BARRED, 1, [(1, 0, 1)])):
            paper = cover_paper(rig, size, suite)
            self.assertTrue(self.assert_judged(rig, size, suite, paper))
            for other in changes(paper):
                taken[paper[0]] += self.assert_judged(rig, size, suite, other)
        self.assertGreater(taken["covers"], 3)
        self.assertGreater(taken["lacks"], 3)

    def test_no_papers(self):
        for suite in ([], [(0, 0), (1, 1), (0, 2)]):
            for paper in NO_PAPERS + ODD + (("covers", (0, 1, 0, 1, 2), ()), ("lacks", ((1, 2),))):
                self.assertFalse(self.assert_judged(OPEN_2, 1, suite, paper))

    def test_all_papers_that_tell_of_a_lot(self):
        taken = 0
        rows = plain.let_rows(BARRED_3)
        for size in (1, 2, 3):
            for suite in ([], rows[:3], rows):
                for asked in (1, 2, 3):
                    for lot in plain.lots_of(BARRED_3[0], asked):
                        for row in rows[:2] + rows[-2:] + ((0, 1, 0),):
                            taken += self.assert_judged(BARRED_3, size, suite, ("lacks", lot, row))
        self.assertGreater(taken, 20)


class WrongInputs(unittest.TestCase):

    def test_numbers_of_settings(self):
        for call, rest in ((lacking, ([],)), (is_cover, ([],)), (least_met, ([],)), (cover_paper, ([],)),
                           (check_cover, ([], ("covers", ()))), (greedy_cover, ())):
            for rig in (OPEN_1, OPEN_2, OPEN_5):
                most = len(rig[0])
                for value in NO_INTEGERS + (0, -1, most + 1, 10 ** 999, -10 ** 999):
                    with self.assertRaises(BadNumber) as caught:
                        call(rig, value, *rest)
                    self.assertIs(caught.exception.value, value)
                if call is not check_cover:
                    call(rig, 1, *rest)
                    call(rig, most, *rest)

    def test_forty_rows_and_more(self):
        for call in (lacking, is_cover, least_met, cover_paper):
            call(OPEN_1, 1, [(0,)] * 40)
            with self.assertRaises(BadSuite) as caught:
                call(OPEN_1, 1, [(0,)] * 41)
            self.assertIsNone(caught.exception.place)
        self.assertEqual(strength(OPEN_1, [(0,), (1,)] * 20), 0)
        with self.assertRaises(BadSuite):
            strength(OPEN_1, [(0,)] * 41)

    def test_no_shape_is_refused_by_the_rig(self):
        for rig in (OPEN_1, OPEN_2):
            for shape in shapes_of(rig):
                enough_settings(rig, shape)


if __name__ == "__main__":
    unittest.main()
