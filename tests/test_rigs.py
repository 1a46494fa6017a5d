import unittest

from rowsthatname.errors import BadLot, BadRig
from rowsthatname.rigs import is_let, is_met, let_rows, need_lot, need_rig, rows_meeting
from tests import plain
from tests.samples import (BARRED_2, BARRED_3, NO_INTEGERS, NONE_LET, ODD, ONE_LET, OPEN_1, OPEN_2, OPEN_3, RIGS,
                           SIX_BARRED, WIDE)

# What is no lot of knobs with (2, 3, 2) values, each for a reason of its own.
NO_LOTS = ODD + (
    (), ((0, 0),) * 2, ((0, 0), (0, 1)), ((0, 1), (0, 0)), ((1, 0), (0, 0)), ((0, 0), (2, 0), (1, 0)),
    ((0, 0), (1, 0), (1, 1)), ((0, 0), (1, 0), (2, 0), (2, 1)), ((0, 0), (1, 0), (2, 0), (3, 0)),
    ((3, 0),), ((-1, 0),), ((0, 2),), ((1, 3),), ((2, 2),), ((0, -1),), ((10 ** 999, 0),), ((0, 10 ** 999),),
    ((0, 0), (1, 3)), ((0, 0), (3, 0)), ((0, 0), (1, -1)),
    ((0,),), ((0, 0, 0),), ((),), (0, 0), (0, 1), ((0, 0), 1), ((0, 0), None), ((0, 0), ()), ([0, 0],), ("00",),
    (b"\x00\x00",), ({0: 0},), ({0, 1},), [(0, 0)], [(0, 0), (1, 1)], {(0, 0): (1, 1)}, (((0, 0),),), ((0, (0,)),),
    (((0,), 0),), ((0, 0), [1, 1]), ((0, 0), (1, 1), [2, 1]))
NO_LOTS = NO_LOTS + tuple(((value, 0),) for value in NO_INTEGERS) + tuple(((1, value),) for value in NO_INTEGERS)
NO_LOTS = NO_LOTS + tuple(((0, 0), (value, 0)) for value in NO_INTEGERS)


class NeedRig(unittest.TestCase):

    def assert_path(self, rig, path):
        with self.assertRaises(BadRig) as caught:
            need_rig(rig)
        self.assertEqual(caught.exception.path, path, rig)
        self.assertIsInstance(caught.exception.path, tuple)

    def test_rigs_are_returned_themselves(self):
        for rig in RIGS:
            self.assertIs(need_rig(rig), rig)

    def test_edges_that_are_rigs(self):
        for values in ((2,), (4,), (2, 2, 2, 2, 2), (4, 4, 4, 4, 4), (2, 3, 4)):
            self.assertEqual(need_rig((values, ())), (values, ()))
        self.assertEqual(len(SIX_BARRED[1]), 6)
        self.assertIs(need_rig(SIX_BARRED), SIX_BARRED)
        for lot in (((1, 2),), ((0, 1), (2, 1)), ((0, 0), (1, 0), (2, 0)), ((0, 1), (1, 2), (2, 1))):
            self.assertEqual(need_rig(((2, 3, 2), (lot,))), ((2, 3, 2), (lot,)))
        # A lot may stand beside one that it is part of: the shorter one is the lesser.
        self.assertEqual(need_rig(((2, 2), (((0, 0),), ((0, 0), (1, 0))))), ((2, 2), (((0, 0),), ((0, 0), (1, 0)))))

    def test_no_pair(self):
        for value in ODD:
            if not isinstance(value, tuple) or len(value) != 2:
                self.assert_path(value, ())
        for value in ((), ((2, 2),), ((2, 2), (), ()), [(2, 2), ()], {(2, 2): (), (3,): ()}, "22", b"22", {2, 3}):
            self.assert_path(value, ())

    def test_values_that_are_no_tuple_of_one_to_five(self):
        for value in ODD:
            if not isinstance(value, tuple):
                self.assert_path((value, ()), (0,))
        for value in ((), (2,) * 6, (2,) * 40, [2, 2], {2: 2}, {2, 3}, "22", b"\x02\x02", 2, None, True, range(2, 4)):
            self.assert_path((value, ()), (0,))
        self.assert_path(((None,) * 6, ()), (0,))

    def test_values_that_are_no_integer_from_two_to_four(self):
        for many in range(1, 6):
            for place in range(many):
                for value in NO_INTEGERS + (1, 5, 0, -2, 10 ** 999, -10 ** 999):
                    values = [2] * many
                    values[place] = value
                    self.assert_path((tuple(values), ()), (0, place))

    def test_first_wrong_value(self):
        self.assert_path(((2, 1, 5), ()), (0, 1))
        self.assert_path(((2, 3, 4, None, []), ()), (0, 3))
        self.assert_path((("2", 2, True), ()), (0, 0))

    def test_barred_that_are_no_tuple_of_at_most_six(self):
        for value in ODD:
            if not isinstance(value, tuple):
                self.assert_path(((2, 3, 2), value), (1,))
        lots = tuple(plain.lots_of((2, 3, 2), 2))
        self.assertEqual(need_rig(((2, 3, 2), lots[:6])), ((2, 3, 2), lots[:6]))
        for value in (lots[:7], lots, (None,) * 7, [lots[0]], list(lots[:6]), {lots[0]: 1}, {lots[0]}, None, 0, ""):
            self.assert_path(((2, 3, 2), value), (1,))

    def test_barred_with_what_is_no_lot(self):
        for value in NO_LOTS:
            self.assert_path(((2, 3, 2), (value,)), (1, 0))
            self.assert_path(((2, 3, 2), (((0, 0),), value)), (1, 1))
            self.assert_path(((2, 3, 2), (value, ((0, 0),), value)), (1, 0))

    def test_barred_not_ascending(self):
        one, two, three = ((0, 0),), ((0, 0), (1, 0)), ((0, 1),)
        for barred, place in (((two, one), 1), ((one, one), 1), ((one, two, two), 2), ((one, three, two), 2),
                              ((three, two, one), 1), ((one, three, None, two), 2), ((two, one, None), 1)):
            self.assert_path(((2, 2), barred), (1, place))
        self.assert_path(((2, 2, 3), SIX_BARRED[1][:5] + SIX_BARRED[1][4:5]), (1, 5))
        self.assert_path(((2, 2, 3), (SIX_BARRED[1][1],) + SIX_BARRED[1][:5]), (1, 1))

    def test_lots_are_lots_of_the_rig(self):
        self.assert_path(((2,), (((0, 2),),)), (1, 0))
        self.assert_path(((2,), (((1, 0),),)), (1, 0))
        self.assert_path(((2, 3), (((1, 2),), ((1, 3),))), (1, 1))

    def test_values_come_before_barred(self):
        self.assert_path((None, None), (0,))
        self.assert_path(((), None), (0,))
        self.assert_path(((2, 9), None), (0, 1))
        self.assert_path(((2, 9), (None,)), (0, 1))
        self.assert_path(((2, 2, 2, 2, 2, 2), (None,)), (0,))


class NeedLot(unittest.TestCase):

    def test_lots_are_returned_themselves(self):
        for rig in RIGS:
            for size in (1, 2, 3):
                for lot in plain.lots_of(rig[0], size):
                    self.assertIs(need_lot(rig, lot), lot)

    def test_lots_that_are_barred_or_met_by_no_row_are_lots(self):
        self.assertEqual(need_lot(ONE_LET, ((0, 0),)), ((0, 0),))
        self.assertEqual(need_lot(NONE_LET, ((1, 3),)), ((1, 3),))

    def test_no_lots(self):
        for value in NO_LOTS:
            with self.assertRaises(BadLot) as caught:
                need_lot(((2, 3, 2), ()), value)
            self.assertIs(caught.exception.value, value)

    def test_lots_of_another_rig(self):
        for rig, lot in ((OPEN_1, ((0, 3),)), (OPEN_1, ((1, 0),)), (OPEN_2, ((0, 2),)), (OPEN_2, ((1, 0), (2, 0)))):
            with self.assertRaises(BadLot):
                need_lot(rig, lot)


class IsLet(unittest.TestCase):

    def test_by_hand(self):
        self.assertIs(is_let(BARRED_2, (0, 0)), True)
        self.assertIs(is_let(BARRED_2, (0, 2)), False)
        self.assertIs(is_let(BARRED_2, (1, 0)), False)
        self.assertIs(is_let(BARRED_2, (1, 2)), True)
        self.assertIs(is_let(ONE_LET, (1, 1)), True)
        self.assertIs(is_let(ONE_LET, (1, 0)), False)
        self.assertIs(is_let(WIDE, (3, 3, 3, 3, 3)), True)

    def test_just_the_let_rows(self):
        for rig in RIGS:
            let = plain.let_rows(rig)
            for row in plain.let_rows((rig[0], ())):
                self.assertIs(is_let(rig, row), row in let)

    def test_any_other_value(self):
        rig = ((2, 3, 2), ())
        self.assertIs(is_let(rig, (1, 1, 1)), True)
        for value in ODD + ((), (1, 1), (1, 1, 1, 1), (2, 0, 0), (0, 3, 0), (0, 0, 2), (-1, 0, 0), (0, 0, -1),
                            [1, 1, 1], "111", b"\x01\x01\x01", {0: 1, 1: 1, 2: 1}, {0, 1, 2}, range(3),
                            ((1, 1, 1),), ((0, 1), (1, 1), (2, 1)), (10 ** 999, 0, 0)):
            self.assertIs(is_let(rig, value), False, value)
        for value in NO_INTEGERS:
            for row in ((value, 1, 1), (1, value, 1), (1, 1, value)):
                self.assertIs(is_let(rig, row), False, row)


class Rows(unittest.TestCase):

    def test_let_rows_by_hand(self):
        self.assertEqual(let_rows(OPEN_1), ((0,), (1,), (2,)))
        self.assertEqual(let_rows(OPEN_2), ((0, 0), (0, 1), (0, 2), (1, 0), (1, 1), (1, 2)))
        self.assertEqual(let_rows(BARRED_2), ((0, 0), (0, 1), (1, 1), (1, 2)))
        self.assertEqual(let_rows(BARRED_3), ((0, 0, 0), (0, 0, 1), (1, 0, 0), (1, 1, 0), (1, 1, 1)))
        self.assertEqual(let_rows(SIX_BARRED), ((0, 1, 2), (1, 0, 1)))
        self.assertEqual(let_rows(NONE_LET), ())
        self.assertEqual(let_rows(ONE_LET), ((1, 1),))

    def test_let_rows_of_many_rigs(self):
        for rig in RIGS + (WIDE,):
            rows = let_rows(rig)
            self.assertIsInstance(rows, tuple)
            self.assertEqual(rows, plain.let_rows(rig))
            self.assertEqual(list(rows), sorted(set(rows)))
        self.assertEqual(len(let_rows(WIDE)), 1024)

    def test_rows_meeting_by_hand(self):
        self.assertEqual(rows_meeting(OPEN_1, ((0, 1),)), ((1,),))
        self.assertEqual(rows_meeting(OPEN_2, ((1, 2),)), ((0, 2), (1, 2)))
        self.assertEqual(rows_meeting(BARRED_2, ((1, 2),)), ((1, 2),))
        self.assertEqual(rows_meeting(BARRED_2, ((0, 0), (1, 2))), ())
        self.assertEqual(rows_meeting(OPEN_3, ((0, 1), (2, 0))), ((1, 0, 0), (1, 1, 0)))
        self.assertEqual(rows_meeting(OPEN_3, ((0, 1), (1, 1), (2, 0))), ((1, 1, 0),))

    def test_rows_meeting_and_is_met_of_many_rigs(self):
        for rig in RIGS:
            rows = plain.let_rows(rig)
            for size in (1, 2, 3):
                for lot in plain.lots_of(rig[0], size):
                    meeting = tuple(row for row in rows if plain.is_meeting(row, lot))
                    self.assertEqual(rows_meeting(rig, lot), meeting)
                    self.assertIs(is_met(rig, lot), meeting != ())

    def test_is_met_by_hand(self):
        self.assertIs(is_met(OPEN_2, ((0, 1), (1, 2))), True)
        self.assertIs(is_met(BARRED_2, ((0, 0), (1, 2))), False)
        # No row is let that has this setting, though no barred lot is it alone.
        self.assertIs(is_met(((2, 2), (((0, 0), (1, 0)), ((0, 0), (1, 1)))), ((0, 0),)), False)
        self.assertIs(is_met(NONE_LET, ((1, 0),)), False)

    def test_no_lots(self):
        rig = ((2, 3, 2), (((0, 0),),))
        for call in (rows_meeting, is_met):
            for value in NO_LOTS:
                with self.assertRaises(BadLot) as caught:
                    call(rig, value)
                self.assertIs(caught.exception.value, value)


if __name__ == "__main__":
    unittest.main()
