"""What holds for every call: names of arguments, nothing modified, equal results, which error comes first."""

import inspect
import unittest
from copy import deepcopy
from itertools import permutations, product

from rowsthatname import faults as faults_file
from rowsthatname import rigs as rigs_file
from rowsthatname.errors import BadPaper, BadRig, TooGreat
from tests.calls import (CALLS, GREAT, HEAVY_PAPERS, LIGHT_PAPERS, ONE, RIG, SHAPE, TOO_GREAT, great_of, refused_of,
                         wrong_of)


class Calls(unittest.TestCase):

    def test_each_is_defined_in_its_file(self):
        for file, name, _ in CALLS:
            self.assertEqual(getattr(file, name).__module__, file.__name__)
            self.assertTrue(inspect.isfunction(getattr(file, name)))

    def test_names_of_the_parameters(self):
        for file, name, given in CALLS:
            parameters = inspect.signature(getattr(file, name)).parameters
            self.assertEqual(list(parameters), list(given), name)
            for parameter in parameters.values():
                self.assertEqual(parameter.kind, inspect.Parameter.POSITIONAL_OR_KEYWORD)
                self.assertIs(parameter.default, inspect.Parameter.empty)

    def test_by_name_in_any_order_as_by_place(self):
        for file, name, given in CALLS:
            call = getattr(file, name)
            expected = call(*given.values())
            for order in permutations(given):
                self.assertEqual(call(**{key: given[key] for key in order}), expected)
            for many in range(len(given)):
                rest = list(given)[many:]
                self.assertEqual(call(*list(given.values())[:many], **{key: given[key] for key in rest}), expected)

    def test_calls_made_twice_return_equal_results(self):
        for file, name, given in CALLS:
            call = getattr(file, name)
            first = call(**given)
            self.assertEqual(call(**given), first)
            self.assertEqual(call(**deepcopy(given)), first)

    def test_a_call_in_between_changes_nothing(self):
        first = [getattr(file, name)(**given) for file, name, given in CALLS]
        other = ((2, 2), ())
        faults_file.classes(other, (1, 2))
        faults_file.outcomes(other, (1, 1), (((0, 0),),), [(0, 0), (1, 0)])
        with self.assertRaises(TooGreat):
            faults_file.all_faults(((4,) * 5, ()), (3, 2))
        self.assertEqual([getattr(file, name)(**given) for file, name, given in CALLS], first)

    def test_suites_and_logs_as_lists_and_as_tuples(self):
        for file, name, given in CALLS:
            for key in ("suite", "log"):
                if key in given:
                    call = getattr(file, name)
                    self.assertEqual(call(**{**given, key: tuple(given[key])}), call(**given))

    def test_nothing_that_can_be_changed_is_returned(self):
        for file, name, given in CALLS:
            self.assert_fixed(getattr(file, name)(**given))

    def assert_fixed(self, value):
        self.assertIn(value.__class__, (int, bool, str, tuple, None.__class__))
        for part in value if isinstance(value, tuple) else ():
            self.assert_fixed(part)

    def test_every_function_has_its_call(self):
        # These are the modules of the interface; bench and desk have classes, with tests of their own.
        listed = {(file.__name__, name) for file, name, _ in CALLS}
        self.assertEqual(len(listed), len(CALLS))
        counts = {"rigs": 6, "faults": 7, "naming": 7, "hearing": 8, "detecting": 10, "covers": 8, "further": 4,
                  "lean": 6, "built": 6, "logs": 4, "games": 3, "walks": 7, "beside": 8, "texts": 6}
        for name, many in counts.items():
            self.assertEqual(len([file for file, _ in listed if file == f"rowsthatname.{name}"]), many, name)


class Arguments(unittest.TestCase):

    def test_what_is_passed_stays_as_it_was(self):
        for file, name, given in CALLS:
            kept = deepcopy(given)
            getattr(file, name)(**given)
            self.assertEqual(given, kept, name)
            for key in ("suite", "other", "log"):
                self.assertEqual(given.get(key, None).__class__, kept.get(key, None).__class__)

    def test_what_is_refused_stays_as_it_was(self):
        for file, name, given in CALLS:
            for key in refused_of(name, given):
                for value in ([(2, 3), [], {}], [[0, 1], [(0, 0)]], {"rig": [RIG]}, [[0, 0, 0], (0, 0, 0)],
                              [((0, 0, 0), True), [(0, 0, 0), False]]):
                    passed = {**given, key: value}
                    kept = deepcopy(passed)
                    with self.assertRaises(ValueError):
                        getattr(file, name)(**passed)
                    self.assertEqual(passed, kept)

    def test_lists_with_lists_in_them_stay_as_they_were(self):
        value = [[0, 1], {0: [1]}, [[]]]
        kept = deepcopy(value)
        self.assertIs(rigs_file.is_let(RIG, value), False)
        self.assertEqual(value, kept)

    def test_suites_and_logs_stay_the_same_lists(self):
        for file, name, given in CALLS:
            for key in ("suite", "log", "other"):
                if isinstance(given.get(key, None), list):
                    passed = list(given[key])
                    kept = list(passed)
                    getattr(file, name)(**{**given, key: passed})
                    self.assertEqual(passed, kept)
                    self.assertTrue(all(one is other for one, other in zip(passed, kept)))


class Errors(unittest.TestCase):

    def assert_first_error(self, file, name, passed, key, value, told):
        kind, field, _ = wrong_of(name, key)
        with self.assertRaises(kind) as caught:
            getattr(file, name)(**passed)
        self.assertIs(caught.exception.__class__, kind)
        self.assertEqual(getattr(caught.exception, field), told)
        if field == "value":
            self.assertIs(caught.exception.value, value)

    def test_one_wrong_argument(self):
        for file, name, given in CALLS:
            for key in refused_of(name, given):
                for value, told in wrong_of(name, key)[2]:
                    self.assert_first_error(file, name, {**given, key: value}, key, value, told)

    def test_of_several_wrong_arguments_the_first(self):
        for file, name, given in CALLS:
            keys = refused_of(name, given)
            for chosen in product((False, True), repeat=len(keys)):
                wrong = [key for key, is_wrong in zip(keys, chosen) if is_wrong]
                for number in range(3):
                    passed = {**given, **{key: wrong_of(name, key)[2][number][0] for key in wrong}}
                    if wrong:
                        value, told = wrong_of(name, wrong[0])[2][number]
                        self.assert_first_error(file, name, passed, wrong[0], value, told)

    def test_is_let_refuses_no_value(self):
        for value in (None, True, "", [], {}, (None,), [[1, 1, 1]], RIG):
            self.assertIs(rigs_file.is_let(RIG, value), False)
            with self.assertRaises(BadRig):
                rigs_file.is_let(None, value)


class Greatness(unittest.TestCase):

    def assert_too_great(self, file, name, passed, most):
        with self.assertRaises(TooGreat) as caught:
            getattr(file, name)(**passed)
        self.assertEqual(caught.exception.most, most, name)

    def test_too_great_is_raised_just_where_it_is_told(self):
        for file, name, given in CALLS:
            if name in TOO_GREAT:
                self.assert_too_great(file, name, great_of(name, given), TOO_GREAT[name])
            else:
                getattr(file, name)(**great_of(name, given))

    def test_other_errors_come_first(self):
        for file, name, given in CALLS:
            for key in refused_of(name, given):
                kind, _, values = wrong_of(name, key)
                with self.assertRaises(kind):
                    getattr(file, name)(**{**great_of(name, given), key: values[0][0]})

    def test_papers(self):
        for file, name, given in CALLS:
            for paper in HEAVY_PAPERS.get(name, ()):
                self.assert_too_great(file, name, {**great_of(name, given), "paper": paper}, 2000)
            if name in HEAVY_PAPERS:
                light = LIGHT_PAPERS[name]
                with self.assertRaises(BadPaper) as caught:
                    getattr(file, name)(**{**great_of(name, given), "paper": light[:-1] + (None,)})
                self.assertEqual(caught.exception.word, light[0])

    def test_by_hand(self):
        great, shape, one, row = GREAT["rig"], GREAT["shape"], GREAT["one"], GREAT["value"]
        self.assertEqual(faults_file.need_shape(great, shape), shape)
        self.assertEqual(faults_file.outcomes(great, shape, one, [row]), (True,))
        self.assertIs(faults_file.are_alike(great, shape, one, ()), False)
        self.assertEqual(len(faults_file.parting_rows(great, shape, one, ())), 16)
        self.assertIn(row, faults_file.failing_rows(great, shape, one))
        self.assertEqual(len(faults_file.classes(RIG, SHAPE)), len({
            faults_file.failing_rows(RIG, SHAPE, faults) for faults in faults_file.all_faults(RIG, SHAPE)}))
        self.assertIn(ONE, faults_file.all_faults(RIG, SHAPE))


if __name__ == "__main__":
    unittest.main()
