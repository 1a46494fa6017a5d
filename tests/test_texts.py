import re
import unittest

from rowsthatname.errors import BadFaults, BadLog, BadRig, BadShape, BadText
from rowsthatname.faults import all_faults
from rowsthatname.texts import faults_text, log_text, read_faults, read_log, read_rig, rig_text
from tests import plain
from tests.samples import (BARRED_2, BARRED_3, NONE_LET, ODD, ONE_LET, OPEN_1, OPEN_2, OPEN_3, OPEN_5, RIGS, SIX_BARRED,
                           WIDE, logs_of, small_cases, tiny_cases)

# Words of all forms, and such that have none of them.
WORDS = ("", "0", "1", "5", "9", "10", "-1", "+1", "a", "O", "0.0", "1.2", "9.9", "0.", ".0", "0.10", "00.0", "0,0",
         "0.0.0", "1.-1", "0 .0", ".", "none", "None", "knobs", "Knobs", "knob", "barred", "bar", "fault", "faults",
         "row", "rows", "fails", "failed", "good", "Good", "good.", "\t0", "0\r", "{}", "0_1", "1e1", "0x1", "'0'")

SETTINGS = [r"[0-9]\.[0-9]"] * 3


def place_of(text, forms_of, most, least_of):
    """Where the first word stands that cannot stand there, as a pair; None if there is none.

    forms_of gives a pattern for each word that the line with a number may have, least_of how many it has to have.
    """
    for number, line in enumerate(text.split("\n")):
        if number >= most:
            return number, 0
        words, forms = line.split(" "), forms_of(number)
        for place, word in enumerate(words):
            if place >= len(forms) or not re.fullmatch(forms[place], word):
                return number, place
        if len(words) < least_of(number):
            return number, len(words)
    return None


def place_in_rig(text):
    """The same of the text of a rig."""
    return place_of(text, lambda number: ["barred"] + SETTINGS if number else ["knobs"] + ["[0-9]"] * 5, 7, lambda _: 2)


def place_in_faults(text):
    """The same of the text of faults."""
    return None if text == "none" else place_of(text, lambda _: ["fault"] + SETTINGS, 2, lambda _: 2)


def place_in_log(text, knobs):
    """The same of the text of a log of so many knobs."""
    forms = ["row"] + ["[0-9]"] * knobs + ["fails|good"]
    return None if text == "none" else place_of(text, lambda _: forms, 40, lambda _: len(forms))


def texts_beside(text):
    """Texts that differ from a text in one thing: a word otherwise, left out or put in, a line, a space or a sign."""
    yield from (text + end for end in (" ", "\n", " 0", "\n ", "\n0", "0", " none", "\nnone", " 0.0"))
    yield from (start + text for start in (" ", "\n", "0 ", "none\n", "none "))
    for number in range(len(text)):
        yield text[:number] + text[number + 1:]
        yield text[:number] + text[number] + text[number:]
        yield text[:number] + " " + text[number:]
        if text[number] == " ":
            yield text[:number] + "\n" + text[number + 1:]
        if text[number] == "\n":
            yield text[:number] + " " + text[number + 1:]
            yield text[:number] + "\n\n" + text[number + 1:]
    lines = text.split("\n")
    for number, line in enumerate(lines):
        yield "\n".join(lines[:number] + lines[number + 1:])
        yield "\n".join(lines[:number] + [line] + lines[number:])
        words = line.split(" ")
        for place in range(len(words)):
            for word in WORDS:
                changed = " ".join(words[:place] + [word] + words[place + 1:])
                yield "\n".join(lines[:number] + [changed] + lines[number + 1:])


class Refusing(unittest.TestCase):

    def assert_bad_text(self, place, call, *given):
        with self.assertRaises(BadText) as caught:
            call(*given)
        self.assertEqual((caught.exception.line, caught.exception.word), place, given[-1])

    def assert_refused(self, kind, call, *given):
        with self.assertRaises(kind) as caught:
            call(*given)
        self.assertIs(caught.exception.__class__, kind)
        return caught.exception


class ByHand(Refusing):

    def test_rigs(self):
        for rig, text in ((OPEN_1, "knobs 3"), (OPEN_5, "knobs 2 2 2 2 2"),
                          (BARRED_2, "knobs 2 3\nbarred 0.0 1.2\nbarred 0.1 1.0"),
                          (BARRED_3, "knobs 2 3 2\nbarred 0.0 1.1\nbarred 0.1 1.0 2.1\nbarred 1.2"),
                          (NONE_LET, "knobs 2 4\nbarred 0.0\nbarred 0.1")):
            self.assertEqual(rig_text(rig), text)
            self.assertEqual(read_rig(text), rig)

    def test_faults(self):
        for rig, shape, faults, text in (
                (OPEN_1, (1, 1), (), "none"), (OPEN_1, (1, 1), (((0, 2),),), "fault 0.2"),
                (OPEN_1, (1, 2), (((0, 0),), ((0, 2),)), "fault 0.0\nfault 0.2"),
                (OPEN_3, (3, 2), (((0, 0), (1, 1), (2, 0)), ((0, 1), (1, 0), (2, 0))),
                 "fault 0.0 1.1 2.0\nfault 0.1 1.0 2.0")):
            self.assertEqual(faults_text(rig, shape, faults), text)
            self.assertEqual(read_faults(rig, shape, text), faults)

    def test_logs(self):
        for rig, log, text in ((OPEN_1, (), "none"), (OPEN_1, (((2,), True),), "row 2 fails"),
                               (BARRED_2, (((0, 0), False), ((1, 2), True), ((0, 0), True)),
                                "row 0 0 good\nrow 1 2 fails\nrow 0 0 fails")):
            self.assertEqual(log_text(rig, log), text)
            self.assertEqual(log_text(rig, list(log)), text)
            self.assertEqual(read_log(rig, text), log)
            self.assertIsInstance(read_log(rig, text), tuple)

    def test_words_that_cannot_stand_in_a_rig(self):
        for text, place in (
                ("", (0, 0)), (" ", (0, 0)), ("\n", (0, 0)), ("none", (0, 0)), ("knobs", (0, 1)), ("knobs ", (0, 1)),
                (" knobs 2", (0, 0)), ("knobs  2", (0, 1)), ("knobs 2 ", (0, 2)), ("knobs 2\n", (1, 0)),
                ("\nknobs 2", (0, 0)), ("knobs 10", (0, 1)), ("knobs 2 2 2 2 2 2", (0, 6)), ("knobs 2 x", (0, 2)),
                ("knobs 2\n\nbarred 0.0", (1, 0)), ("knobs 2\nbarred", (1, 1)), ("knobs 2\nbarred 0", (1, 1)),
                ("knobs 2\nbarred 0.0 0.1 0.1 0.1", (1, 4)), ("knobs 2\nbarred 0.0\nknobs 2", (2, 0)),
                ("knobs 2\nbarred 0.0\nbarred 0.0 ", (2, 2)), ("knobs 2\nbarred 0.0\nbarred 0.00", (2, 1)),
                ("knobs 2\nbarred 00", (1, 1)), ("knobs 2 barred 0.0", (0, 2)), ("barred 0.0", (0, 0)),
                ("knobs 2" + "\nbarred 0.0" * 7, (7, 0)), ("knobs 2" + "\nbarred 0.0" * 6 + "\n", (7, 0)),
                ("knobs 2" + "\nbarred 0.0" * 9, (7, 0)), ("knobs 2\nbarred x" + "\nbarred 0.0" * 7, (1, 1))):
            self.assert_bad_text(place, read_rig, text)

    def test_words_that_cannot_stand_in_faults(self):
        for text, place in (
                ("", (0, 0)), ("none ", (0, 0)), ("none\n", (0, 0)), ("none none", (0, 0)), ("none\nfault 0.0", (0, 0)),
                (" none", (0, 0)), ("None", (0, 0)), ("fault", (0, 1)), ("fault ", (0, 1)), ("fault none", (0, 1)),
                ("fault 0.0\nnone", (1, 0)), ("fault 0.0\n", (1, 0)), ("fault 0.0\nfault", (1, 1)),
                ("fault 0.0\nfault 0.1\nfault 0.2", (2, 0)), ("fault 0.0\nfault 0.1\n", (2, 0)),
                ("fault 0.0 0.0 0.0 0.0", (0, 4)), ("fault 0.0  0.1", (0, 2)), ("faults 0.0", (0, 0)),
                ("fault 0:0", (0, 1)), ("fault 0.0\nfault 0.1 0", (1, 2))):
            self.assert_bad_text(place, read_faults, OPEN_1, (1, 1), text)
            self.assert_bad_text(place, read_faults, OPEN_3, (3, 2), text)

    def test_words_that_cannot_stand_in_a_log(self):
        for text, place in (
                ("", (0, 0)), ("none ", (0, 0)), ("none\nrow 0 0 good", (0, 0)), ("row", (0, 1)), ("row 0", (0, 2)),
                ("row 0 0", (0, 3)), ("row 0 good", (0, 2)), ("row 0 0 0 good", (0, 3)), ("row 0 0 good good", (0, 4)),
                ("row 0 0 good ", (0, 4)), ("row 0 0 bad", (0, 3)), ("row 0 0 True", (0, 3)), ("row 0 00 good", (0, 2)),
                ("row 0 0 good\n", (1, 0)), ("row 0 0 good\nnone", (1, 0)), ("row 0 0 good\nrow 0 0 fail", (1, 3)),
                ("row 0 0 good\n" * 40, (40, 0)), ("row 0 0 good\n" * 40 + "row 0 0 good", (40, 0)),
                ("row 0 0 good\n" * 39 + "row 0 0", (39, 3)), ("row 0 x good\n" * 50, (0, 2))):
            self.assert_bad_text(place, read_log, OPEN_2, text)

    def test_what_is_told_by_its_form_and_is_none(self):
        for text, path in (("knobs 0", (0, 0)), ("knobs 2 5 1", (0, 1)), ("knobs 2\nbarred 0.2", (1, 0)),
                           ("knobs 2 2\nbarred 0.0\nbarred 0.0", (1, 1)), ("knobs 2\nbarred 1.0", (1, 0)),
                           ("knobs 2 2\nbarred 0.1\nbarred 0.0", (1, 1)), ("knobs 2 2\nbarred 1.0 0.0", (1, 0)),
                           ("knobs 2 2\nbarred 0.0 0.1", (1, 0)), ("knobs 2 1\nbarred 9.9", (0, 1))):
            self.assertEqual(self.assert_refused(BadRig, read_rig, text).path, path)
        for text, value in (("fault 0.0", (((0, 0),),)), ("fault 0.0 1.3", (((0, 0), (1, 3)),)),
                            ("fault 0.0 1.0\nfault 0.0 1.1", (((0, 0), (1, 0)), ((0, 0), (1, 1)))),
                            ("fault 0.0 1.2", (((0, 0), (1, 2)),)), ("fault 9.9", (((9, 9),),)),
                            ("fault 0.0 1.0 2.0", (((0, 0), (1, 0), (2, 0)),))):
            error = self.assert_refused(BadFaults, read_faults, BARRED_2, (2, 1), text)
            self.assertEqual(error.value, value)
        for text in ("fault 0.0\nfault 0.0", "fault 0.1\nfault 0.0"):
            self.assert_refused(BadFaults, read_faults, OPEN_1, (1, 2), text)
        for text, place in (("row 0 3 good", 0), ("row 0 0 good\nrow 0 2 good", 1), ("row 9 9 good", 0),
                            ("row 0 0 good\n" * 39 + "row 2 0 fails", 39)):
            self.assertEqual(self.assert_refused(BadLog, read_log, BARRED_2, text).place, place)

    def test_bounds(self):
        rig = ((2, 2, 2), tuple(((0, 0), (1, value), (2, other)) for value in (0, 1) for other in (0, 1))
               + (((0, 1), (1, 0)), ((0, 1), (1, 1))))
        for many in range(7):
            part = (rig[0], rig[1][:many])
            self.assertEqual(read_rig(rig_text(part)), part)
            self.assertEqual(len(rig_text(part).split("\n")), many + 1)
        for many in range(1, 6):
            part = ((2, 3, 4, 2, 3)[:many], ())
            self.assertEqual(read_rig(rig_text(part)), part)
        for many in (0, 1, 2, 39, 40):
            log = tuple(((number % 3,), number % 2 == 0) for number in range(many))
            self.assertEqual(read_log(OPEN_1, log_text(OPEN_1, log)), log)
        self.assertEqual(log_text(OPEN_1, [((1,), True)] * 40), "\n".join(["row 1 fails"] * 40))
        self.assert_refused(BadLog, log_text, OPEN_1, [((1,), True)] * 41)

    def test_nothing_is_too_great(self):
        one = (((0, 0), (1, 0), (2, 0)), ((0, 0), (1, 0), (2, 3)))
        self.assertEqual(read_faults(WIDE, (3, 2), faults_text(WIDE, (3, 2), one)), one)
        self.assertEqual(read_faults(WIDE, (3, 2), "none"), ())


class ManyRigs(unittest.TestCase):

    def test_there_and_back(self):
        for rig in RIGS + (WIDE, SIX_BARRED, ONE_LET):
            text = rig_text(rig)
            self.assertEqual(read_rig(text), rig)
            self.assertEqual(rig_text(read_rig(text)), text)
            self.assertIsNone(place_in_rig(text))
        for rig, shape in small_cases():
            for faults in all_faults(rig, shape)[::29] + all_faults(rig, shape)[-1:]:
                text = faults_text(rig, shape, faults)
                self.assertEqual(read_faults(rig, shape, text), faults)
                self.assertIsNone(place_in_faults(text))
        for rig, shape in tiny_cases():
            for log in logs_of(rig, shape, 4, 30):
                self.assertEqual(read_log(rig, log_text(rig, log)), tuple(log))
                self.assertIsNone(place_in_log(log_text(rig, log), len(rig[0])))


class OtherTexts(Refusing):

    def assert_read(self, place, kind, write, read, text):
        """That a text is refused at its place, or else is read as what has this text, or is none."""
        if place is not None:
            self.assert_bad_text(place, read, text)
            return "form"
        try:
            value = read(text)
        except kind:
            return "value"
        self.assertEqual(write(value), text)
        return "taken"

    def test_rigs(self):
        told = {"form": 0, "value": 0, "taken": 0}
        for rig in RIGS[:15] + (((3, 3, 4, 2, 2), (((0, 0), (2, 3)),)),):
            for text in texts_beside(rig_text(rig)):
                told[self.assert_read(place_in_rig(text), BadRig, rig_text, read_rig, text)] += 1
        self.assertTrue(all(many > 30 for many in told.values()), told)

    def test_faults(self):
        told = {"form": 0, "value": 0, "taken": 0}
        for rig, shape in ((OPEN_1, (1, 1)), (OPEN_1, (1, 2)), (BARRED_2, (2, 2)), (OPEN_3, (3, 2)), (BARRED_3, (3, 1)),
                           (NONE_LET, (1, 1))):
            for faults in all_faults(rig, shape)[::7]:
                for text in texts_beside(faults_text(rig, shape, faults)):
                    told[self.assert_read(
                        place_in_faults(text), BadFaults, lambda value: faults_text(rig, shape, value),
                        lambda told: read_faults(rig, shape, told), text)] += 1
        self.assertTrue(all(many > 30 for many in told.values()), told)

    def test_logs(self):
        told = {"form": 0, "value": 0, "taken": 0}
        for rig, shape in ((OPEN_1, (1, 1)), (BARRED_2, (2, 2)), (OPEN_5, (1, 1)), (NONE_LET, (1, 1))):
            for log in logs_of(rig, shape, 3):
                for text in texts_beside(log_text(rig, log)):
                    told[self.assert_read(
                        place_in_log(text, len(rig[0])), BadLog, lambda value: log_text(rig, value),
                        lambda told: read_log(rig, told), text)] += 1
        self.assertTrue(all(many > 30 for many in told.values()), told)

    def test_texts_of_the_others(self):
        rig, faults, log = rig_text(BARRED_2), "fault 0.0 1.0", "row 0 0 good"
        for text in (faults, log, "none"):
            self.assert_bad_text((0, 0), read_rig, text)
        for text in (rig, log):
            self.assert_bad_text((0, 0), read_faults, BARRED_2, (2, 1), text)
        for text in (rig, faults):
            self.assert_bad_text((0, 0), read_log, BARRED_2, text)


class WrongInputs(Refusing):

    def test_no_strings(self):
        for value in ODD + (["knobs 2"], ("knobs", 2), b"knobs 2", {"knobs": 2}, b"none", ["none"], (("none",),)):
            if not isinstance(value, str):
                self.assert_bad_text((None, None), read_rig, value)
                self.assert_bad_text((None, None), read_faults, OPEN_1, (1, 1), value)
                self.assert_bad_text((None, None), read_log, OPEN_1, value)

    def test_no_rigs_no_faults_no_logs(self):
        for call, given in ((rig_text, ()), (faults_text, (None, None)), (log_text, (None,)),
                            (read_faults, (None, None)), (read_log, (None,))):
            for value, path in ((None, ()), (((2, 9), ()), (0, 1)), (((2,), (((0, 0),), 7)), (1, 1))):
                self.assertEqual(self.assert_refused(BadRig, call, value, *given).path, path)
        for value in ODD + ((2, 1), (1, 3)):
            self.assertIs(self.assert_refused(BadShape, faults_text, OPEN_1, value, None).value, value)
            self.assertIs(self.assert_refused(BadShape, read_faults, OPEN_1, value, None).value, value)
        for value in ODD + ([((0, 0),)], (((0, 3),),), (((0, 0),), ((0, 1),)), "none"):
            if value != ():
                self.assertIs(self.assert_refused(BadFaults, faults_text, OPEN_1, (1, 1), value).value, value)
        for value, place in ((None, None), ("none", None), ([((0,), True), ((3,), True)], 1), ([((0,), 1)], 0)):
            self.assertEqual(self.assert_refused(BadLog, log_text, OPEN_1, value).place, place)

    def test_which_error_comes_first(self):
        self.assert_refused(BadRig, read_faults, None, None, None)
        self.assert_refused(BadShape, read_faults, OPEN_1, None, None)
        self.assert_bad_text((None, None), read_faults, OPEN_1, (1, 1), None)
        self.assert_bad_text((1, 1), read_faults, OPEN_1, (1, 1), "fault 9.9\nfault 9")
        self.assert_refused(BadRig, read_log, None, "x")
        self.assert_bad_text((1, 1), read_log, OPEN_1, "row 9 good\nrow x good")
        self.assert_bad_text((1, 1), read_rig, "knobs 9\nbarred 9")


if __name__ == "__main__":
    unittest.main()
