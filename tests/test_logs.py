import unittest

from rowsthatname.errors import BadLog, BadRig, BadRow, BadShape, TooGreat
from rowsthatname.logs import first_false, foretold, left_faults, open_rows
from tests import plain
from tests.samples import (BARRED_2, NONE_LET, ODD, ONE_LET, OPEN_1, OPEN_2, OPEN_3, WIDE, logs_of, small_cases,
                           tiny_cases)

A, B, C = (((0, 0),),), (((0, 1),),), (((0, 2),),)
CALLS = ((left_faults, ()), (first_false, ()), (foretold, ((0,),)), (open_rows, ()))


class ByHand(unittest.TestCase):

    def test_empty_logs(self):
        for log in ([], ()):
            self.assertEqual(left_faults(OPEN_1, (1, 1), log), ((), A, B, C))
            self.assertIsNone(first_false(OPEN_1, (1, 1), log))
            self.assertIsNone(foretold(OPEN_1, (1, 1), log, (1,)))
            self.assertEqual(open_rows(OPEN_1, (1, 1), log), ((0,), (1,), (2,)))

    def test_rows_that_were_run(self):
        log = [((1,), False)]
        self.assertEqual(left_faults(OPEN_1, (1, 1), log), ((), A, C))
        self.assertIs(foretold(OPEN_1, (1, 1), log, (1,)), False)
        self.assertIsNone(foretold(OPEN_1, (1, 1), log, (0,)))
        self.assertEqual(open_rows(OPEN_1, (1, 1), log), ((0,), (2,)))
        log = (((1,), True),)
        self.assertEqual(left_faults(OPEN_1, (1, 1), log), (B,))
        self.assertIs(foretold(OPEN_1, (1, 1), log, (1,)), True)
        self.assertIs(foretold(OPEN_1, (1, 1), log, (0,)), False)
        self.assertEqual(open_rows(OPEN_1, (1, 1), log), ())
        self.assertEqual(left_faults(OPEN_1, (1, 2), log), ((((0, 0),), ((0, 1),)), (((0, 1),),),
                                                            (((0, 1),), ((0, 2),))))
        self.assertIsNone(foretold(OPEN_1, (1, 2), log, (0,)))
        self.assertEqual(open_rows(OPEN_1, (1, 2), log), ((0,), (2,)))

    def test_logs_that_no_faults_fit(self):
        log = [((0,), False), ((1,), True), ((2,), False), ((0,), True), ((1,), False)]
        self.assertEqual(left_faults(OPEN_1, (1, 2), log), ())
        self.assertEqual(first_false(OPEN_1, (1, 2), log), 3)
        self.assertIsNone(first_false(OPEN_1, (1, 2), log[:3]))
        self.assertEqual(first_false(OPEN_1, (1, 1), [((2,), True), ((1,), True)]), 1)
        self.assertIsNone(first_false(OPEN_1, (1, 2), [((2,), True), ((1,), True)]))
        self.assertEqual(first_false(OPEN_1, (1, 2), [((2,), True), ((1,), True), ((0,), True)]), 2)
        for row in ((0,), (1,), (2,)):
            self.assertIsNone(foretold(OPEN_1, (1, 2), log, row))
        self.assertEqual(open_rows(OPEN_1, (1, 2), log), ())

    def test_a_row_twice(self):
        self.assertEqual(left_faults(OPEN_1, (1, 1), [((0,), True), ((0,), True)]), (A,))
        self.assertEqual(left_faults(OPEN_1, (1, 1), [((0,), True), ((0,), False)]), ())
        self.assertEqual(first_false(OPEN_1, (1, 1), [((0,), True), ((0,), True), ((0,), False)]), 2)
        self.assertEqual(first_false(OPEN_1, (1, 1), [((0,), False), ((0,), True)]), 1)

    def test_all_faults_are_told_also_alike_ones(self):
        one, other = (((0, 1),),), (((1, 1),),)
        self.assertEqual(left_faults(ONE_LET, (1, 1), [((1, 1), True)]), (one, other))
        self.assertIs(foretold(ONE_LET, (1, 1), [((1, 1), True)], (1, 1)), True)
        self.assertEqual(open_rows(ONE_LET, (1, 1), []), ((1, 1),))
        self.assertEqual(open_rows(ONE_LET, (1, 1), [((1, 1), True)]), ())

    def test_no_row_is_let(self):
        self.assertEqual(left_faults(NONE_LET, (2, 2), ()), ((),))
        self.assertIsNone(first_false(NONE_LET, (2, 2), ()))
        self.assertEqual(open_rows(NONE_LET, (2, 2), ()), ())


class ManyRigs(unittest.TestCase):

    def test_all_faults_looked_at(self):
        found = set()
        for rig, shape in tiny_cases():
            for log in logs_of(rig, shape, 6):
                self.assert_as_plain(rig, shape, log)
                left = plain.left_faults(rig, shape, log)
                found.add(min(len(plain.left_ones(rig, shape, log)), 2))
                self.assertEqual(first_false(rig, shape, log) is None, len(left) > 0)
        self.assertEqual(found, {0, 1, 2})

    def test_more_faults(self):
        for rig, shape in small_cases()[::5]:
            for log in logs_of(rig, shape, 2):
                self.assert_as_plain(rig, shape, log)

    def assert_as_plain(self, rig, shape, log):
        self.assertEqual(left_faults(rig, shape, log), plain.left_faults(rig, shape, log))
        self.assertEqual(first_false(rig, shape, log), plain.first_false(rig, shape, log))
        self.assertEqual(open_rows(rig, shape, log), plain.open_rows(rig, shape, log))
        rows = plain.let_rows(rig)
        for row in rows[:5] + tuple(row for row, _ in log[:2]):
            self.assertIs(foretold(rig, shape, log, row), plain.foretold(rig, shape, log, row))

    def test_what_is_open_is_not_foretold(self):
        for rig, shape in tiny_cases()[::2]:
            log = logs_of(rig, shape, 2, 3)[-1]
            opened = open_rows(rig, shape, log)
            for row in plain.let_rows(rig):
                if left_faults(rig, shape, log):
                    self.assertEqual(foretold(rig, shape, log, row) is None, row in opened)

    def test_forty_pairs(self):
        for rig, shape in ((OPEN_2, (1, 2)), (OPEN_3, (2, 1)), (BARRED_2, (2, 2))):
            rows = plain.let_rows(rig)
            faults = plain.all_faults(rig, shape)[-1]
            log = [(row, plain.is_failing(row, faults)) for row in rows * 40][:40]
            self.assertIn(faults, left_faults(rig, shape, log))
            self.assertEqual(open_rows(rig, shape, log), ())
            turned = log[:39] + [(log[39][0], not log[39][1])]
            self.assertEqual(left_faults(rig, shape, tuple(turned)), ())
            self.assertEqual(first_false(rig, shape, turned), 39)
            for call, rest in CALLS:
                with self.assertRaises(BadLog) as caught:
                    call(rig, shape, log + log[:1], *(rows[:1] if rest else ()))
                self.assertIsNone(caught.exception.place)


class WrongInputs(unittest.TestCase):

    def assert_no_log(self, value, place):
        for call, rest in CALLS:
            with self.assertRaises(BadLog) as caught:
                call(OPEN_1, (1, 1), value, *rest)
            self.assertEqual(caught.exception.place, place)
            self.assertIs(caught.exception.place.__class__, place.__class__)

    def test_no_list_and_no_tuple(self):
        for value in ODD + ("row 0 good", {(0,): True}, [((0,), True)] * 41, (0,) * 41, range(0)):
            if value in ([], ()):
                continue
            if isinstance(value, (list, tuple)) and len(value) <= 40:
                self.assert_no_log(value, 0)
            else:
                self.assert_no_log(value, None)

    def test_things_that_are_no_pairs(self):
        wrong = ODD + (((0,),), ((0,), True, True), [(0,), True], (True, (0,)), ((3,), True), ((-1,), True),
                       ((0, 0), True), ([0], True), ((True,), True), (((0,),), True), "row", ((0,), 0), ((0,), 1),
                       ((0,), None), ((0,), "fails"), ((0,), (True,)), {(0,): True, (1,): False})
        for value in wrong:
            self.assert_no_log([value], 0)
            self.assert_no_log((((0,), True), ((1,), False), value), 2)
            self.assert_no_log([((0,), True), value, value], 1)
        # More than may be there are refused ahead of what is in them.
        self.assert_no_log([None] * 41, None)
        self.assert_no_log([None] * 40, 0)

    def test_rows_that_are_not_let(self):
        for row in ((0, 2), (1, 0), [0, 0], (0,), (0, 0, 0), (0, False), None, "00", ((0, 0),)):
            with self.assertRaises(BadLog) as caught:
                left_faults(BARRED_2, (1, 1), [((0, 0), True), (row, True)])
            self.assertEqual(caught.exception.place, 1)
            with self.assertRaises(BadRow) as caught:
                foretold(BARRED_2, (1, 1), [], row)
            self.assertIs(caught.exception.value, row)
        for value in ODD:
            with self.assertRaises(BadRow) as caught:
                foretold(BARRED_2, (1, 1), [], value)
            self.assertIs(caught.exception.value, value)

    def test_which_error_comes_first(self):
        with self.assertRaises(BadRig):
            foretold(None, None, None, None)
        with self.assertRaises(BadShape):
            foretold(WIDE, (1, 3), None, None)
        with self.assertRaises(BadLog):
            foretold(WIDE, (3, 2), [None], None)
        with self.assertRaises(BadRow):
            foretold(WIDE, (3, 2), [], None)
        for call, rest in ((left_faults, ()), (first_false, ()), (foretold, ((0,) * 5,)), (open_rows, ())):
            with self.assertRaises(TooGreat) as caught:
                call(WIDE, (3, 2), [], *rest)
            self.assertEqual(caught.exception.most, 2000)
            call(WIDE, (3, 1), [], *rest)


if __name__ == "__main__":
    unittest.main()
