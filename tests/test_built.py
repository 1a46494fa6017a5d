import unittest
from itertools import combinations

from rowsthatname.built import apart_pairs, built_suite, check_apart, exchanges, least_by_count, mixed_count
from rowsthatname.errors import BadNumber, BadPaper, BadSuite, TooGreat
from rowsthatname.naming import names
from tests import plain
from tests.papers import STRANGE, changes, is_pairs
from tests.samples import (NO_INTEGERS, NONE_LET, ODD, ONE_LET, OPEN_1, OPEN_2, OPEN_3, OPEN_5, WIDE, small_cases,
                           suites_of, tiny_cases)

ALL_ROWS = [(0,), (1,), (2,)]
A, B, C = (((0, 0),),), (((0, 1),),), (((0, 2),),)
CUBE = ((4, 4, 4), (((0, 0), (1, 0), (2, 0)), ((0, 0), (1, 0), (2, 1))))


class ByHand(unittest.TestCase):

    def test_mixed_count(self):
        self.assertEqual(mixed_count(OPEN_1, (1, 1), []), 6)
        self.assertEqual(mixed_count(OPEN_1, (1, 1), [(1,)]), 3)
        self.assertEqual(mixed_count(OPEN_1, (1, 2), [(1,), (1,)]), 9)
        self.assertEqual(mixed_count(OPEN_1, (1, 1), ALL_ROWS), 0)
        # Pairs of classes, not of faults.
        self.assertEqual(mixed_count(ONE_LET, (1, 2), []), 1)
        self.assertEqual(mixed_count(NONE_LET, (1, 2), []), 0)

    def test_built_suites(self):
        self.assertEqual(built_suite(OPEN_1, (1, 1), []), tuple(ALL_ROWS))
        self.assertEqual(built_suite(OPEN_1, (1, 1), [(2,), (2,)]), ((2,), (2,), (0,), (1,)))
        self.assertEqual(built_suite(OPEN_1, (1, 1), ALL_ROWS), tuple(ALL_ROWS))
        self.assertEqual(built_suite(ONE_LET, (1, 2), []), ((1, 1),))
        self.assertEqual(built_suite(NONE_LET, (1, 2), []), ())

    def test_exchanges(self):
        self.assertEqual(exchanges(OPEN_1, (1, 1), ALL_ROWS, 1), ((1,),))
        self.assertEqual(exchanges(OPEN_1, (1, 1), ALL_ROWS + [(1,)], 1), tuple(ALL_ROWS))
        self.assertEqual(exchanges(OPEN_1, (1, 1), [(1,), (1,)], 0), ((1,),))
        rig = ((2, 2), ())
        self.assertEqual(exchanges(rig, (1, 1), [(0, 0)], 0), ((0, 0),))
        self.assertEqual(exchanges(rig, (1, 1), [(0, 0), (0, 1), (1, 0), (1, 1)], 3), plain.let_rows(rig))

    def test_bounds(self):
        self.assertEqual(least_by_count(OPEN_1, (1, 1)), 2)
        self.assertEqual(least_by_count(OPEN_1, (1, 2)), 3)
        self.assertEqual(least_by_count(NONE_LET, (1, 1)), 0)
        self.assertEqual(least_by_count(ONE_LET, (1, 2)), 1)
        self.assertEqual(least_by_count(((4,), ()), (1, 1)), 3)
        self.assertEqual(least_by_count(WIDE, (3, 1)), 10)
        self.assertEqual(apart_pairs(OPEN_1, (1, 1)), (((), A), ((), B), ((), C)))
        self.assertEqual(apart_pairs(NONE_LET, (1, 1)), ())
        self.assertEqual(apart_pairs(ONE_LET, (1, 2)), (((), (((0, 1),),)),))

    def test_check_apart(self):
        self.assertEqual(check_apart(OPEN_1, (1, 1), ()), 0)
        self.assertEqual(check_apart(OPEN_1, (1, 1), ((A, B), (C, ()))), 2)
        self.assertEqual(check_apart(OPEN_1, (1, 2), ((A, A + B), (B + C, B))), 2)
        for pairs in (((A, B), (B, C)), ((A, A),), ((A, B), (A, B)), ((A,),), ((A, B, C),), ([A, B],), [(A, B)],
                      ((A, B), None), (A, B), ((A, A + B),), (((0, 1),), A), ((A, [((0, 1),)]),)):
            with self.assertRaises(BadPaper) as caught:
                check_apart(OPEN_1, (1, 1), pairs)
            self.assertEqual(caught.exception.word, "pairs")

    def test_alike_faults_are_no_pair(self):
        with self.assertRaises(BadPaper):
            check_apart(ONE_LET, (1, 1), (((((0, 1),),), (((1, 1),),)),))
        self.assertEqual(check_apart(ONE_LET, (1, 1), (((((0, 1),),), ()),)), 1)


class ManyRigs(unittest.TestCase):

    def test_mixed_count(self):
        for rig, shape in small_cases()[::3]:
            if len(plain.all_faults(rig, shape)) <= 300:
                for suite in suites_of(rig, 2, 10):
                    self.assertEqual(mixed_count(rig, shape, suite), plain.mixed_count(rig, shape, suite))

    def test_built_row_by_row(self):
        lengths = set()
        for rig, shape in tiny_cases():
            for suite in suites_of(rig, 2, 5)[1:]:
                built = plain.built_suite(rig, shape, suite)
                if len(built) > 40:
                    with self.assertRaises(TooGreat):
                        built_suite(rig, shape, suite)
                else:
                    self.assertEqual(built_suite(rig, shape, suite), built)
                    self.assertEqual(built[:len(suite)], tuple(suite))
                    lengths.add((len(suite), len(built)))
        self.assertGreater(len(lengths), 30)

    def test_rows_that_can_stand_for_others(self):
        sizes = set()
        for rig, shape in tiny_cases():
            for suite in suites_of(rig, 3, 8)[4:]:
                for number in range(0, len(suite), 2):
                    rows = exchanges(rig, shape, suite, number)
                    self.assertEqual(rows, plain.exchanges(rig, shape, suite, number))
                    self.assertIn(suite[number], rows)
                    sizes.add(len(rows))
        self.assertGreater(len(sizes), 8)

    def test_bounds(self):
        for rig, shape in small_cases():
            many = len(plain.classes(rig, shape))
            least = least_by_count(rig, shape)
            self.assertGreaterEqual(2 ** least, many)
            self.assertTrue(least == 0 or 2 ** (least - 1) < many)
            if many <= 300:
                pairs = apart_pairs(rig, shape)
                self.assertEqual(pairs, plain.apart_pairs(rig, shape))
                self.assertEqual(check_apart(rig, shape, pairs), len(pairs))

    def test_the_facts_of_bounds(self):
        tried = set()
        for rig, shape in tiny_cases():
            rows = plain.let_rows(rig)
            if len(rows) > 9:
                continue
            least = max(least_by_count(rig, shape), len(apart_pairs(rig, shape)))
            for many in range(len(rows) + 1):
                for suite in combinations(rows, many):
                    if names(rig, shape, suite):
                        self.assertGreaterEqual(many, least)
                        tried.add((many, least))
        self.assertGreater(len(tried), 20)

    def test_many_faults(self):
        rows = plain.let_rows(OPEN_5)
        self.assertEqual(mixed_count(OPEN_5, (2, 2), rows), 0)
        built = built_suite(OPEN_5, (2, 2), [])
        self.assertIs(names(OPEN_5, (2, 2), built), True)
        self.assertEqual(built[:2], ((0, 0, 0, 0, 0), (0, 0, 0, 1, 1)))
        self.assertEqual(least_by_count(CUBE, (3, 2)), 11)
        pairs = apart_pairs(CUBE, (3, 2))
        # Each let row of three knobs is a lot, so that one row is needed for each.
        self.assertEqual(len(pairs), 62)
        self.assertEqual(check_apart(CUBE, (3, 2), pairs), 62)


class FortyRows(unittest.TestCase):

    def test_built_suites_of_forty_rows_and_of_more(self):
        self.assertEqual(built_suite(OPEN_1, (1, 1), [(0,)] * 38), ((0,),) * 38 + ((1,), (2,)))
        self.assertEqual(len(built_suite(OPEN_1, (1, 1), [(0,)] * 37 + ALL_ROWS)), 40)
        for suite in ([(0,)] * 39, [(0,)] * 40, [(0,)] * 39 + [(1,)]):
            with self.assertRaises(TooGreat) as caught:
                built_suite(OPEN_1, (1, 1), suite)
            self.assertEqual(caught.exception.most, 40)

    def test_too_great_of_two_thousand_comes_first(self):
        with self.assertRaises(TooGreat) as caught:
            built_suite(WIDE, (2, 2), [(0, 0, 0, 0, 0)] * 40)
        self.assertEqual(caught.exception.most, 2000)
        with self.assertRaises(TooGreat) as caught:
            built_suite(WIDE, (3, 1), [])
        self.assertEqual(caught.exception.most, 40)

    def test_suites_of_more_rows(self):
        for call, rest in ((mixed_count, ()), (built_suite, ()), (exchanges, (0,))):
            with self.assertRaises(BadSuite) as caught:
                call(OPEN_1, (1, 1), [(0,)] * 41, *rest)
            self.assertIsNone(caught.exception.place)
        self.assertEqual(exchanges(OPEN_1, (1, 1), [(0,)] * 40, 39), ((0,),))


class WrongInputs(unittest.TestCase):

    def test_numbers_of_rows(self):
        for suite in ([], [(0,)], ALL_ROWS, [(0,)] * 40):
            for value in NO_INTEGERS + (-1, len(suite), len(suite) + 1, 10 ** 999, -10 ** 999):
                with self.assertRaises(BadNumber) as caught:
                    exchanges(OPEN_1, (1, 1), suite, value)
                self.assertIs(caught.exception.value, value)
            if suite:
                exchanges(OPEN_1, (1, 1), suite, 0)
                exchanges(OPEN_1, (1, 1), suite, len(suite) - 1)
        with self.assertRaises(BadNumber):
            exchanges(OPEN_1, (1, 1), [], 0)

    def assert_judged(self, rig, shape, pairs):
        if is_pairs(rig, shape, pairs):
            self.assertEqual(check_apart(rig, shape, pairs), len(pairs))
            return True
        with self.assertRaises(BadPaper) as caught:
            check_apart(rig, shape, pairs)
        self.assertEqual(caught.exception.word, "pairs")
        return False

    def test_pairs_with_one_thing_changed(self):
        taken = 0
        for rig, shape in ((OPEN_1, (1, 1)), (OPEN_1, (1, 2)), (OPEN_2, (2, 1)), (OPEN_2, (1, 2)), (OPEN_3, (1, 1)),
                           (ONE_LET, (2, 2)), (NONE_LET, (1, 1))):
            pairs = apart_pairs(rig, shape)
            self.assertTrue(self.assert_judged(rig, shape, pairs))
            for other in changes(pairs):
                taken += self.assert_judged(rig, shape, other)
        self.assertGreater(taken, 10)

    def test_no_pairs(self):
        for value in STRANGE + ODD + (((), A), (((), A), ()), ("pairs", ()), ((), ())):
            self.assertIs(self.assert_judged(OPEN_1, (1, 1), value), value == () and isinstance(value, tuple))

    def test_pairs_are_checked_however_many_faults_there_are(self):
        lots = (((0, 0), (1, 0)), ((0, 0), (1, 1)), ((0, 3), (4, 3)))
        self.assertEqual(check_apart(WIDE, (2, 2), (((), lots[:1]), ((), lots[1:2]), (lots[:1], lots[::2]))), 3)
        with self.assertRaises(BadPaper):
            check_apart(WIDE, (2, 2), (((), lots[:1]), ((), lots[:2])))
        with self.assertRaises(BadPaper):
            check_apart(WIDE, (2, 2), None)


if __name__ == "__main__":
    unittest.main()
