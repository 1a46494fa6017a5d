"""What holds for every call: names of arguments, nothing modified, equal results, which error comes first."""

import inspect
import unittest
from copy import deepcopy
from itertools import permutations, product

from rowsthatname import faults as faults_file
from rowsthatname import rigs as rigs_file
from rowsthatname.errors import BadFaults, BadLot, BadRig, BadShape, BadSuite, TooGreat

RIG = ((2, 3, 2), (((0, 0), (1, 1)), ((1, 2),)))
SHAPE = (2, 2)
ONE = (((0, 0), (1, 0)), ((0, 1), (2, 0)))
OTHER = (((0, 1), (1, 1)),)
SUITE = [(0, 0, 0), (1, 1, 1), (0, 0, 0)]

CALLS = (
    (rigs_file, "need_rig", {"rig": RIG}),
    (rigs_file, "need_lot", {"rig": RIG, "lot": ((0, 1), (1, 1))}),
    (rigs_file, "is_let", {"rig": RIG, "value": (1, 1, 1)}),
    (rigs_file, "let_rows", {"rig": RIG}),
    (rigs_file, "rows_meeting", {"rig": RIG, "lot": ((0, 1),)}),
    (rigs_file, "is_met", {"rig": RIG, "lot": ((0, 1),)}),
    (faults_file, "need_shape", {"rig": RIG, "shape": SHAPE}),
    (faults_file, "all_faults", {"rig": RIG, "shape": SHAPE}),
    (faults_file, "outcomes", {"rig": RIG, "shape": SHAPE, "faults": ONE, "suite": SUITE}),
    (faults_file, "classes", {"rig": RIG, "shape": SHAPE}),
    (faults_file, "are_alike", {"rig": RIG, "shape": SHAPE, "one": ONE, "other": OTHER}),
    (faults_file, "parting_rows", {"rig": RIG, "shape": SHAPE, "one": ONE, "other": OTHER}),
    (faults_file, "failing_rows", {"rig": RIG, "shape": SHAPE, "faults": ONE}),
)

# For each argument its error, the field of it, and wrong values with what the field is then.
WRONG = {
    "rig": (BadRig, "path", ((None, ()), (((2,), []), (1,)), (((2, True), ()), (0, 1)),
                             (((2,), (((0, 0),), ((0, 0),))), (1, 1)))),
    "lot": (BadLot, "value", ((None, None), (((0, 2),), ((0, 2),)), ([(0, 0)], [(0, 0)]))),
    "shape": (BadShape, "value", ((None, None), ((4, 1), (4, 1)), ([2, 2], [2, 2]))),
    "faults": (BadFaults, "value", ((None, None), ((((0, 0), (1, 1)),), (((0, 0), (1, 1)),)), ([], []))),
    "suite": (BadSuite, "place", ((None, None), ([(0, 0, 0), (0, 2, 0)], 1), ([(0, 0, 0)] * 41, None))),
}
WRONG["one"] = WRONG["other"] = WRONG["faults"]


class Calls(unittest.TestCase):

    def test_each_is_defined_in_its_file(self):
        for file, name, _ in CALLS:
            self.assertEqual(getattr(file, name).__module__, file.__name__)
            self.assertTrue(inspect.isfunction(getattr(file, name)))

    def test_names_of_the_parameters(self):
        for file, name, given in CALLS:
            parameters = inspect.signature(getattr(file, name)).parameters
            self.assertEqual(list(parameters), list(given), name)
            for parameter in parameters.values():
                self.assertEqual(parameter.kind, inspect.Parameter.POSITIONAL_OR_KEYWORD)
                self.assertIs(parameter.default, inspect.Parameter.empty)

    def test_by_name_in_any_order_as_by_place(self):
        for file, name, given in CALLS:
            call = getattr(file, name)
            expected = call(*given.values())
            for order in permutations(given):
                self.assertEqual(call(**{key: given[key] for key in order}), expected)
            for many in range(len(given)):
                rest = list(given)[many:]
                self.assertEqual(call(*list(given.values())[:many], **{key: given[key] for key in rest}), expected)

    def test_calls_made_twice_return_equal_results(self):
        for file, name, given in CALLS:
            call = getattr(file, name)
            first = call(**given)
            self.assertEqual(call(**given), first)
            self.assertEqual(call(**deepcopy(given)), first)

    def test_a_call_in_between_changes_nothing(self):
        first = [getattr(file, name)(**given) for file, name, given in CALLS]
        other = ((2, 2), ())
        faults_file.classes(other, (1, 2))
        faults_file.outcomes(other, (1, 1), (((0, 0),),), [(0, 0), (1, 0)])
        with self.assertRaises(TooGreat):
            faults_file.all_faults(((4,) * 5, ()), (3, 2))
        self.assertEqual([getattr(file, name)(**given) for file, name, given in CALLS], first)


class Arguments(unittest.TestCase):

    def test_what_is_passed_stays_as_it_was(self):
        for file, name, given in CALLS:
            kept = deepcopy(given)
            getattr(file, name)(**given)
            self.assertEqual(given, kept, name)
            self.assertEqual(given.get("suite", None).__class__, kept.get("suite", None).__class__)

    def test_what_is_refused_stays_as_it_was(self):
        for file, name, given in CALLS:
            for key in given:
                if key == "value":
                    continue
                for value in ([(2, 3), [], {}], [[0, 1], [(0, 0)]], {"rig": [RIG]}, [[0, 0, 0], (0, 0, 0)]):
                    passed = {**given, key: value}
                    kept = deepcopy(passed)
                    with self.assertRaises(ValueError):
                        getattr(file, name)(**passed)
                    self.assertEqual(passed, kept)

    def test_lists_with_lists_in_them_stay_as_they_were(self):
        value = [[0, 1], {0: [1]}, [[]]]
        kept = deepcopy(value)
        self.assertIs(rigs_file.is_let(RIG, value), False)
        self.assertEqual(value, kept)

    def test_suites_stay_the_same_lists(self):
        suite = [(0, 0, 0), (1, 1, 1)]
        rows = list(suite)
        faults_file.outcomes(RIG, SHAPE, ONE, suite)
        self.assertEqual(suite, rows)
        self.assertTrue(all(one is other for one, other in zip(suite, rows)))


class Errors(unittest.TestCase):

    def assert_first_error(self, call, passed, key, value, told):
        kind, field, _ = WRONG[key]
        with self.assertRaises(kind) as caught:
            call(**passed)
        self.assertIs(caught.exception.__class__, kind)
        self.assertEqual(getattr(caught.exception, field), told)
        if field == "value":
            self.assertIs(caught.exception.value, value)

    def test_one_wrong_argument(self):
        for file, name, given in CALLS:
            for key in given:
                if key in WRONG:
                    for value, told in WRONG[key][2]:
                        self.assert_first_error(getattr(file, name), {**given, key: value}, key, value, told)

    def test_of_several_wrong_arguments_the_first(self):
        for file, name, given in CALLS:
            keys = [key for key in given if key in WRONG]
            for chosen in product((False, True), repeat=len(keys)):
                wrong = [key for key, is_wrong in zip(keys, chosen) if is_wrong]
                for number in range(3):
                    passed = {**given, **{key: WRONG[key][2][number][0] for key in wrong}}
                    if wrong:
                        value, told = WRONG[wrong[0]][2][number]
                        self.assert_first_error(getattr(file, name), passed, wrong[0], value, told)

    def test_wrong_first_arguments_with_great_ones(self):
        great = ((4, 4, 4, 4, 4), ())
        for name in ("all_faults", "classes"):
            call = getattr(faults_file, name)
            with self.assertRaises(TooGreat):
                call(great, (3, 2))
            with self.assertRaises(BadShape):
                call(great, (3, True))
            with self.assertRaises(BadRig):
                call(((4, 4, 4, 4, 4), []), (3, 2))

    def test_is_let_refuses_no_value(self):
        for value in (None, True, "", [], {}, (None,), [[1, 1, 1]], RIG):
            self.assertIs(rigs_file.is_let(RIG, value), False)
            with self.assertRaises(BadRig):
                rigs_file.is_let(None, value)

    def test_too_great_is_not_raised_where_not_all_faults_are_gone_through(self):
        great, shape, one = ((4, 4, 4, 4, 4), ()), (3, 2), (((0, 0), (1, 0), (2, 0)),)
        row = (0, 0, 0, 0, 0)
        self.assertEqual(faults_file.need_shape(great, shape), shape)
        self.assertEqual(faults_file.outcomes(great, shape, one, [row]), (True,))
        self.assertIs(faults_file.are_alike(great, shape, one, ()), False)
        self.assertEqual(len(faults_file.parting_rows(great, shape, one, ())), 16)
        self.assertIn(row, faults_file.failing_rows(great, shape, one))


if __name__ == "__main__":
    unittest.main()
