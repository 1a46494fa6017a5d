import unittest

from rowsthatname import errors
from rowsthatname.errors import (BadFaults, BadLog, BadLot, BadNumber, BadOutcomes, BadPaper, BadRig, BadRow, BadShape,
                                 BadSuite, BadText, FaultError, TooGreat)
from tests.samples import ODD

FIELDS = ((BadRig, ("path",)), (BadShape, ("value",)), (BadLot, ("value",)), (BadFaults, ("value",)),
          (BadSuite, ("place",)), (BadOutcomes, ("value",)), (BadNumber, ("value",)), (BadPaper, ("word",)),
          (BadLog, ("place",)), (BadRow, ("value",)), (BadText, ("line", "word")))


class ErrorClasses(unittest.TestCase):

    def test_bases(self):
        self.assertEqual(FaultError.__bases__, (ValueError,))
        self.assertEqual(TooGreat.__bases__, (OverflowError,))
        for kind, _ in FIELDS:
            self.assertEqual(kind.__bases__, (FaultError,), kind)

    def test_too_great_is_no_refusal(self):
        self.assertFalse(issubclass(TooGreat, FaultError))
        self.assertFalse(issubclass(TooGreat, ValueError))

    def test_no_kind_is_under_another(self):
        for kind, _ in FIELDS:
            under = [other for other, _ in FIELDS if issubclass(kind, other)]
            self.assertEqual(under, [kind])

    def test_classes_are_defined_in_their_file(self):
        for kind in [kind for kind, _ in FIELDS] + [FaultError, TooGreat]:
            self.assertEqual(kind.__module__, "rowsthatname.errors")
            self.assertIs(getattr(errors, kind.__name__), kind)


class ErrorFields(unittest.TestCase):

    def test_fault_error_has_one_text(self):
        self.assertEqual(str(FaultError("no such lot")), "no such lot")
        self.assertEqual(vars(FaultError("no such lot")), {})

    def test_fields_by_place(self):
        for kind, names in FIELDS + ((TooGreat, ("most",)),):
            for value in ODD:
                given = [value, 7][:len(names)]
                self.assert_fields(kind(*given), names, given)

    def test_fields_by_name_in_any_order(self):
        for kind, names in FIELDS + ((TooGreat, ("most",)),):
            for value in ODD:
                given = [value, "w"][:len(names)]
                named = list(zip(names, given))
                self.assert_fields(kind(**dict(named)), names, given)
                self.assert_fields(kind(**dict(named[::-1])), names, given)

    def test_line_and_word_are_not_mixed_up(self):
        error = BadText(3, 1)
        self.assertEqual((error.line, error.word), (3, 1))
        self.assertEqual(vars(BadText(None, None)), {"line": None, "word": None})

    def test_other_numbers_of_fields_are_refused(self):
        for kind, names in FIELDS + ((TooGreat, ("most",)),):
            with self.assertRaises(TypeError):
                kind()
            with self.assertRaises(TypeError):
                kind(*[0] * (len(names) + 1))

    def test_raised_and_caught(self):
        for kind, names in FIELDS:
            with self.assertRaises(FaultError) as caught:
                raise kind(*names)
            self.assert_fields(caught.exception, names, names)
        with self.assertRaises(OverflowError) as caught:
            raise TooGreat(2000)
        self.assertEqual(caught.exception.most, 2000)

    def assert_fields(self, error, names, given):
        self.assertEqual(tuple(vars(error)), names)
        for name, value in zip(names, given):
            self.assertIs(getattr(error, name), value)
        self.assertIsInstance(str(error), str)


if __name__ == "__main__":
    unittest.main()
