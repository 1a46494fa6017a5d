import unittest

from rowsthatname.errors import BadFaults, BadShape, BadSuite, TooGreat
from rowsthatname.faults import (all_faults, are_alike, classes, failing_rows, need_shape, outcomes, parting_rows)
from tests import plain
from tests.samples import (BARRED_2, BARRED_3, NO_INTEGERS, NONE_LET, ODD, ONE_LET, OPEN_1, OPEN_2, OPEN_3, OPEN_5,
                           RIGS, SIX_BARRED, WIDE, drawn_rigs, shapes_of, small_cases)

# Three knobs of four values have 64 lots of three settings, one for each row.
CUBE = (4, 4, 4)
CORNERS = (((0, 0), (1, 0), (2, 0)), ((0, 0), (1, 0), (2, 1)))
LOT_A, LOT_B, LOT_C = ((0, 0), (1, 1)), ((0, 1), (1, 1)), ((0, 1), (2, 0))


def some(things, many):
    """So many of some things, spread over all of them."""
    step = max(1, len(things) // many)
    return things[::step]


class NeedShape(unittest.TestCase):

    def test_shapes_are_returned_themselves(self):
        for rig in RIGS + (WIDE,):
            for shape in shapes_of(rig):
                self.assertIs(need_shape(rig, shape), shape)

    def test_no_shapes(self):
        wrong = [(), (1,), (1, 1, 1), [1, 1], "11", b"\x01\x01", {1: 1, 2: 2}, {1, 2}, range(1, 3), ((1, 1),),
                 (0, 1), (4, 1), (-1, 1), (1, 0), (1, 3), (1, -1), (10 ** 999, 1), (1, 10 ** 999), (3, 3), (0, 0)]
        wrong += [(value, 1) for value in NO_INTEGERS] + [(1, value) for value in NO_INTEGERS]
        for value in tuple(wrong) + ODD:
            self.assert_no_shape(OPEN_5, value)
            self.assert_no_shape(OPEN_3, value)

    def test_no_more_settings_than_knobs(self):
        for most in (1, 2):
            self.assertEqual(need_shape(OPEN_3, (3, most)), (3, most))
            self.assertEqual(need_shape(OPEN_2, (2, most)), (2, most))
            self.assertEqual(need_shape(OPEN_1, (1, most)), (1, most))
            self.assert_no_shape(OPEN_2, (3, most))
            self.assert_no_shape(OPEN_1, (2, most))
            self.assert_no_shape(OPEN_1, (3, most))
            self.assert_no_shape(WIDE, (4, most))

    def test_each_function_refuses_no_shapes(self):
        for call in (need_shape, all_faults, classes):
            with self.assertRaises(BadShape):
                call(OPEN_2, (3, 1))
        calls = ((outcomes, ((), [])), (are_alike, ((), ())), (parting_rows, ((), ())), (failing_rows, ((),)))
        for call, rest in calls:
            with self.assertRaises(BadShape) as caught:
                call(OPEN_2, [1, 1], *rest)
            self.assertEqual(caught.exception.value, [1, 1])

    def assert_no_shape(self, rig, value):
        with self.assertRaises(BadShape) as caught:
            need_shape(rig, value)
        self.assertIs(caught.exception.value, value)


class AllFaults(unittest.TestCase):

    def test_by_hand(self):
        one, two, three = ((0, 0),), ((0, 1),), ((0, 2),)
        self.assertEqual(all_faults(OPEN_1, (1, 1)), ((), (one,), (two,), (three,)))
        self.assertEqual(all_faults(OPEN_1, (1, 2)),
                         ((), (one,), (one, two), (one, three), (two,), (two, three), (three,)))
        self.assertEqual(all_faults(BARRED_2, (2, 1)),
                         ((), (((0, 0), (1, 0)),), (((0, 0), (1, 1)),), (((0, 1), (1, 1)),), (((0, 1), (1, 2)),)))
        self.assertEqual(all_faults(ONE_LET, (1, 2)),
                         ((), (((0, 1),),), (((0, 1),), ((1, 1),)), (((1, 1),),)))
        for shape in ((1, 1), (1, 2), (2, 1), (2, 2)):
            self.assertEqual(all_faults(NONE_LET, shape), ((),))

    def test_many_rigs(self):
        for rig, shape in small_cases():
            found = all_faults(rig, shape)
            self.assertIsInstance(found, tuple)
            self.assertEqual(found, plain.all_faults(rig, shape))
            self.assertTrue(all(one < other for one, other in zip(found, found[1:])))

    def test_lots_that_no_let_row_meets_cannot_fail(self):
        rig = ((2, 2, 2), (((0, 0), (1, 0)), ((0, 0), (1, 1))))
        self.assertNotIn((((0, 0),),), all_faults(rig, (1, 1)))
        self.assertNotIn((((0, 0), (2, 0)),), all_faults(rig, (2, 1)))
        self.assertEqual(len(all_faults(rig, (2, 1))), 1 + 8)

    def test_at_most_two_thousand(self):
        self.assertEqual(len(all_faults((CUBE, CORNERS), (3, 2))), 1954)
        self.assertEqual(len(all_faults((CUBE, ()), (3, 1))), 65)
        self.assertEqual(len(all_faults(WIDE, (3, 1))), 641)
        self.assertEqual(len(all_faults(OPEN_5, (2, 2))), 821)
        self.assertEqual(len(classes((CUBE, CORNERS), (3, 2))), 1954)

    def test_more_than_two_thousand(self):
        for call in (all_faults, classes):
            for rig, shape in (((CUBE, CORNERS[:1]), (3, 2)), ((CUBE, ()), (3, 2)), (OPEN_5, (3, 2)), (WIDE, (2, 2)),
                               (WIDE, (3, 2))):
                with self.assertRaises(TooGreat) as caught:
                    call(rig, shape)
                self.assertEqual(caught.exception.most, 2000)

    def test_too_great_comes_behind(self):
        for call in (all_faults, classes):
            with self.assertRaises(BadShape):
                call(WIDE, (3, 3))
            with self.assertRaises(BadShape):
                call(WIDE, (4, 2))


class Classes(unittest.TestCase):

    def test_by_hand(self):
        one, two = ((0, 0),), ((0, 1),)
        self.assertEqual(classes(((2,), ()), (1, 2)), (((),), ((one,),), ((one, two),), ((two,),)))
        last, first = ((1, 1),), ((0, 1),)
        self.assertEqual(classes(ONE_LET, (1, 2)), (((),), ((first,), (first, last), (last,))))
        self.assertEqual(classes(NONE_LET, (1, 2)), (((),),))
        # Both values of the one knob fail everywhere, and so do both of the other one.
        wide = [group for group in classes(((2, 2), ()), (1, 2)) if len(group) > 1]
        self.assertEqual(wide, [((((0, 0),), ((0, 1),)), (((1, 0),), ((1, 1),)))])

    def test_many_rigs(self):
        seen_wide = False
        for rig, shape in small_cases():
            groups = classes(rig, shape)
            self.assertEqual(groups, plain.classes(rig, shape))
            self.assertIsInstance(groups, tuple)
            self.assertTrue(all(isinstance(group, tuple) for group in groups))
            seen_wide = seen_wide or any(len(group) > 2 for group in groups)
        self.assertTrue(seen_wide)


class TwoFaults(unittest.TestCase):

    def test_by_hand(self):
        one, other = (LOT_A,), (LOT_A, LOT_C)
        self.assertEqual(failing_rows(OPEN_3, (2, 2), ()), ())
        self.assertEqual(failing_rows(OPEN_3, (2, 2), one), ((0, 1, 0), (0, 1, 1)))
        self.assertEqual(failing_rows(OPEN_3, (2, 2), other), ((0, 1, 0), (0, 1, 1), (1, 0, 0), (1, 1, 0)))
        self.assertEqual(parting_rows(OPEN_3, (2, 2), one, other), ((1, 0, 0), (1, 1, 0)))
        self.assertEqual(parting_rows(OPEN_3, (2, 2), other, one), ((1, 0, 0), (1, 1, 0)))
        self.assertEqual(parting_rows(OPEN_3, (2, 2), (LOT_A,), (LOT_C,)),
                         ((0, 1, 0), (0, 1, 1), (1, 0, 0), (1, 1, 0)))
        self.assertEqual(parting_rows(OPEN_3, (2, 2), other, (LOT_B, LOT_C)),
                         ((0, 1, 0), (0, 1, 1), (1, 1, 1)))
        self.assertIs(are_alike(OPEN_3, (2, 2), one, other), False)
        self.assertIs(are_alike(OPEN_3, (2, 2), other, other), True)
        # Where just one row is let, all lots that it meets fail alike.
        self.assertIs(are_alike(ONE_LET, (1, 2), (((0, 1),),), (((1, 1),),)), True)
        self.assertEqual(parting_rows(ONE_LET, (1, 2), (((0, 1),),), (((1, 1),),)), ())
        self.assertEqual(parting_rows(ONE_LET, (1, 2), (((0, 1),),), ()), ((1, 1),))
        self.assertIs(are_alike(((2, 2), ()), (1, 2), (((0, 0),), ((0, 1),)), (((1, 0),), ((1, 1),))), True)

    def test_no_row_is_let(self):
        self.assertEqual(failing_rows(NONE_LET, (1, 2), ()), ())
        self.assertEqual(parting_rows(NONE_LET, (1, 2), (), ()), ())
        self.assertIs(are_alike(NONE_LET, (1, 2), (), ()), True)
        self.assertEqual(outcomes(NONE_LET, (1, 2), (), []), ())

    def test_many_rigs(self):
        for rig, shape in small_cases():
            faults = some(plain.all_faults(rig, shape), 8)
            for one in faults:
                self.assertEqual(failing_rows(rig, shape, one), plain.failing_rows(rig, one))
                for other in faults[:6]:
                    parting = plain.parting_rows(rig, one, other)
                    self.assertEqual(parting_rows(rig, shape, one, other), parting)
                    self.assertIs(are_alike(rig, shape, one, other), parting == ())

    def test_alike_ones_of_many_rigs(self):
        for rig, shape in small_cases():
            for group in some(plain.classes(rig, shape), 10):
                for other in group[1:4]:
                    self.assertIs(are_alike(rig, shape, group[0], other), True)

    def test_not_too_great(self):
        one, other = (((0, 0), (1, 0), (2, 0)),), (((0, 0), (1, 0), (2, 0)), ((0, 3), (3, 3), (4, 3)))
        self.assertEqual(len(failing_rows(WIDE, (3, 2), other)), 32)
        self.assertEqual(len(parting_rows(WIDE, (3, 2), one, other)), 16)
        self.assertIs(are_alike(WIDE, (3, 2), one, other), False)
        self.assertEqual(outcomes(WIDE, (3, 2), other, [(0, 0, 0, 0, 0), (0, 0, 1, 0, 0), (3, 0, 0, 3, 3)]),
                         (True, False, True))


class Outcomes(unittest.TestCase):

    def test_by_hand(self):
        suite = [(0, 1, 0), (0, 0, 0), (1, 0, 0), (0, 1, 1), (0, 1, 0)]
        self.assertEqual(outcomes(OPEN_3, (2, 2), (LOT_A,), suite), (True, False, False, True, True))
        self.assertEqual(outcomes(OPEN_3, (2, 2), (LOT_A, LOT_C), tuple(suite)), (True, False, True, True, True))
        self.assertEqual(outcomes(OPEN_3, (2, 2), (), suite), (False,) * 5)
        self.assertEqual(outcomes(OPEN_3, (2, 2), (LOT_A,), []), ())
        self.assertEqual(outcomes(OPEN_3, (2, 2), (LOT_A,), ()), ())

    def test_many_rigs(self):
        for rig, shape in small_cases():
            rows = plain.let_rows(rig)
            suite = (rows[::-1] + rows + rows)[:40]
            for faults in some(plain.all_faults(rig, shape), 8):
                told = tuple(plain.is_failing(row, faults) for row in suite)
                for given in (suite, list(suite)):
                    heard = outcomes(rig, shape, faults, given)
                    self.assertEqual(heard, told)
                    self.assertIsInstance(heard, tuple)
                    self.assertTrue(all(outcome is True or outcome is False for outcome in heard))

    def test_a_suite_of_forty_rows_and_of_more(self):
        for suite in ([(0, 1)] * 40, ((0, 1),) * 40):
            self.assertEqual(outcomes(OPEN_2, (1, 1), (((1, 1),),), suite), (True,) * 40)
        for suite in ([(0, 1)] * 41, ((0, 1),) * 41, [None] * 41, [(9, 9)] * 100):
            self.assert_no_suite(OPEN_2, suite, None)

    def test_no_list_and_no_tuple(self):
        for value in ODD:
            if not isinstance(value, (list, tuple)):
                self.assert_no_suite(OPEN_2, value, None)
        for value in ({(0, 0): True}, {(0, 0)}, iter([(0, 0)]), "00", b"\x00", range(0), None, True, 0):
            self.assert_no_suite(OPEN_2, value, None)

    def test_rows_that_are_no_let_rows(self):
        row = (0, 1)
        wrong = ODD + ((), (0,), (0, 0, 0), [0, 1], "01", b"\x00\x01", {0: 0, 1: 1}, ((0, 1),), (2, 0), (0, 3),
                       (-1, 0), (0, -1), (0, 10 ** 999), (0, 2), (1, 0))
        wrong += tuple((value, 1) for value in NO_INTEGERS) + tuple((1, value) for value in NO_INTEGERS)
        for value in wrong:
            self.assert_no_suite(BARRED_2, [value], 0)
            self.assert_no_suite(BARRED_2, (row, value), 1)
            self.assert_no_suite(BARRED_2, [row, row, value, row, value], 2)
        self.assert_no_suite(BARRED_2, [row] * 39 + [(1, 0)], 39)
        self.assert_no_suite(NONE_LET, [(0, 0)], 0)

    def assert_no_suite(self, rig, suite, place):
        with self.assertRaises(BadSuite) as caught:
            outcomes(rig, (1, 1), (), suite)
        self.assertEqual(caught.exception.place, place, suite)
        self.assertNotIsInstance(caught.exception.place, bool)


class WrongFaults(unittest.TestCase):

    def wrong_faults(self):
        """What is no faults of OPEN_3 and the shape (2, 2)."""
        wrong = [LOT_A, (LOT_A, LOT_A), (LOT_B, LOT_A), (LOT_A, LOT_B, LOT_C), [LOT_A], [], [LOT_A, LOT_B],
                 {LOT_A}, {LOT_A: True}, "", b"", (LOT_A, None), (None, LOT_A), (LOT_A, []), ((),), (LOT_A, ()),
                 (((0, 0),),), (((0, 0), (1, 0), (2, 0)),), (LOT_A, ((0, 1),)), (((0, 0),), LOT_A),
                 (((1, 1), (0, 0)),), (((0, 0), (0, 1)),), (((0, 0), (3, 0)),), (((0, 0), (1, 2)),),
                 (((0, 0), (1, -1)),), ([(0, 0), (1, 1)],), (([0, 0], (1, 1)),), ((LOT_A,),)]
        wrong += [(((0, 0), (1, value)),) for value in NO_INTEGERS]
        wrong += [(((0, 0), (value, 1)),) for value in NO_INTEGERS]
        wrong += [(((value, 0), (1, 1)),) for value in NO_INTEGERS]
        return wrong + list(ODD)

    def assert_no_faults(self, rig, shape, value):
        calls = ((outcomes, (value, [])), (failing_rows, (value,)))
        for name in (are_alike, parting_rows):
            calls += ((name, (value, ())), (name, ((), value)), (name, (value, value)))
        for call, rest in calls:
            with self.assertRaises(BadFaults) as caught:
                call(rig, shape, *rest)
            self.assertIs(caught.exception.value, value)

    def test_no_faults(self):
        for value in self.wrong_faults():
            self.assert_no_faults(OPEN_3, (2, 2), value)

    def test_no_more_lots_than_the_shape_has(self):
        self.assertEqual(len(failing_rows(OPEN_3, (2, 2), (LOT_A, LOT_B))), 4)
        self.assert_no_faults(OPEN_3, (2, 1), (LOT_A, LOT_B))
        self.assertEqual(len(failing_rows(OPEN_3, (2, 1), (LOT_A,))), 2)

    def test_just_as_many_settings_as_the_shape_has(self):
        lots = (((0, 0),), ((0, 0), (1, 0)), ((0, 0), (1, 0), (2, 0)))
        for size in (1, 2, 3):
            for lot in lots:
                if len(lot) == size:
                    self.assertEqual(len(failing_rows(OPEN_3, (size, 1), (lot,))), 8 >> size)
                else:
                    self.assert_no_faults(OPEN_3, (size, 1), (lot,))

    def test_lots_that_no_let_row_meets(self):
        self.assert_no_faults(BARRED_2, (2, 2), (((0, 0), (1, 2)),))
        self.assert_no_faults(BARRED_2, (2, 2), (((0, 0), (1, 0)), ((0, 0), (1, 2))))
        self.assert_no_faults(BARRED_3, (1, 2), (((1, 2),),))
        self.assert_no_faults(SIX_BARRED, (2, 1), (((0, 0), (2, 0)),))
        self.assert_no_faults(NONE_LET, (1, 2), (((0, 0),),))
        self.assert_no_faults(NONE_LET, (1, 2), (((1, 0),),))

    def test_the_first_wrong_one_is_told(self):
        for call in (are_alike, parting_rows):
            with self.assertRaises(BadFaults) as caught:
                call(OPEN_3, (2, 2), "one", "other")
            self.assertEqual(caught.exception.value, "one")


class DrawnRigs(unittest.TestCase):

    def test_enough_kinds_of_rigs_are_tried(self):
        rigs = drawn_rigs(40)
        self.assertEqual({len(values) for values, _ in rigs}, {1, 2, 3, 4, 5})
        self.assertTrue({0, 1, 2, 4, 6} <= {len(barred) for _, barred in rigs})
        shapes = {(size, most) for size in (1, 2, 3) for most in (1, 2)}
        self.assertEqual({shape for _, shape in small_cases()}, shapes)


if __name__ == "__main__":
    unittest.main()
