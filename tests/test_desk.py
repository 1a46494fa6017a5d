import inspect
import operator
import unittest
from random import Random

from rowsthatname import desk as desk_file
from rowsthatname.bench import Bench
from rowsthatname.desk import Desk
from rowsthatname.errors import BadRig, BadShape, BadText, TooGreat
from rowsthatname.faults import all_faults
from rowsthatname.texts import faults_text, log_text, rig_text
from tests import plain
from tests.samples import (BARRED_2, BARRED_3, NONE_LET, ODD, ONE_LET, OPEN_1, OPEN_2, OPEN_3, SIX_BARRED)
from tests.test_bench import stand_of

# Lines that are none of those that are answered, beside what has two knobs of two and three values.
NO_LINES = ("", " ", "\n", "undo ", " undo", "undo\n", "\nundo", "undo 1", "undo undo", "Undo", "UNDO", "redo ",
            "redo redo", "rig ", "rig 0", "rigs", "log ", "log 1", "left ", "left 0", "least ", "least 1", "next ",
            "next 1", "fewest ", "fewest 3", "row", "row ", "row good", "row fails", "row 0", "row 0 0", "row 0 good",
            "row 0 0 0 good", "row 0 0 good ", " row 0 0 good", "row  0 0 good", "row 0  0 good", "row 0 0  good",
            "row 0 0\ngood", "row 0 0 good\n", "row 0 0 good\nrow 0 0 good", "row 0 0 Good", "row 0 0 True",
            "row 0 0 failed", "rows 0 0 good", "row 0 0 good fails", "row 0 x good", "row 00 0 good", "row 0 -1 good",
            "row 0 3 good", "row 2 0 good", "row 9 9 fails", "row 0.0 1.0 good", "row (0, 0) good", "foretell",
            "foretell ", "foretell 0", "foretell 0 0 0", "foretell 0 0 ", "foretell 0 0 good", "foretell 0 3",
            "foretell 9 9", "foretell  0 0", "foretell 0 00", "foretell 0 x", "foretell 0 0\n", "foretells 0 0",
            "none", "done", "nothing", "bad line", "open", "more", "knobs", "knobs 2 3", "heads", "copy", "trial",
            "__len__", "x" * 20000, "0 0", "good", "row 0 0 good / row 0 0 good")


def desk_of(rig, shape, log=()):
    """A desk on which these rows were run."""
    desk = Desk(rig_text(rig), shape)
    for row, outcome in log:
        desk.bench.run(row, outcome)
    return desk


def words(values):
    """Values as words."""
    return " ".join(str(value) for value in values)


class ByHand(unittest.TestCase):

    def assert_told(self, desk, *told):
        """That each line, one after another, has its answer."""
        for line, answer in told:
            self.assertEqual(desk.say(line), answer, line)

    def test_a_row_of_lines(self):
        desk = Desk("knobs 2 3\nbarred 0.0 1.2", (1, 1))
        self.assert_told(
            desk, ("rig", "knobs 2 3 / barred 0.0 1.2"), ("log", "none"), ("left", "6"), ("least", "none"),
            ("next", "0 0"), ("fewest", "3"), ("foretell 0 0", "open"), ("row 0 0 good", "4"), ("left", "4"),
            ("least", "none"),
            ("next", "0 1"), ("foretell 0 0", "good"), ("fewest", "2"), ("row 0 1 fails", "1"), ("least", "fault 1.1"),
            ("foretell 1 1", "fails"), ("foretell 1 2", "good"), ("next", "none"), ("fewest", "0"),
            ("log", "row 0 0 good / row 0 1 fails"), ("undo", "done"), ("left", "4"), ("redo", "done"), ("left", "1"),
            ("redo", "nothing"), ("undo", "done"), ("undo", "done"), ("undo", "nothing"), ("log", "none"),
            ("row 1 2 fails", "2"), ("redo", "nothing"), ("least", "fault 0.1"), ("next", "1 0"),
            ("foretell 0 0", "good"), ("fewest", "1"))

    def test_logs_that_no_faults_fit(self):
        desk = Desk("knobs 3", (1, 1))
        self.assert_told(
            desk, ("row 0 fails", "1"), ("row 0 good", "0"), ("left", "0"), ("least", "nothing"), ("next", "none"),
            ("fewest", "0"), ("foretell 0", "open"), ("log", "row 0 fails / row 0 good"), ("row 1 good", "0"),
            ("undo", "done"), ("undo", "done"), ("left", "1"), ("least", "fault 0.0"))

    def test_more_than_three_next_rows(self):
        self.assert_told(Desk("knobs 4", (1, 1)), ("fewest", "more"), ("row 0 good", "4"), ("fewest", "3"))
        self.assert_told(Desk("knobs 3", (1, 2)), ("fewest", "3"))

    def test_several_lots(self):
        desk = Desk("knobs 2 2 2", (2, 2))
        self.assert_told(desk, ("row 0 0 0 fails", "30"), ("least", "fault 0.0 1.0"), ("row 0 0 1 good", "16"),
                         ("least", "fault 0.0 1.1 / fault 0.0 2.0"))

    def test_heads_are_counted_not_faults(self):
        desk = Desk("knobs 2 2\nbarred 0.0\nbarred 1.0", (1, 2))
        self.assert_told(desk, ("left", "2"), ("row 1 1 fails", "1"), ("least", "fault 0.1"), ("next", "none"))
        self.assertEqual(len(desk.bench.left()), 3)

    def test_no_row_is_let(self):
        self.assert_told(desk_of(NONE_LET, (1, 2)), ("rig", "knobs 2 4 / barred 0.0 / barred 0.1"), ("left", "1"),
                         ("least", "none"), ("next", "none"), ("fewest", "0"), ("row 0 0 good", "bad line"),
                         ("foretell 0 0", "bad line"), ("undo", "nothing"), ("redo", "nothing"), ("log", "none"))

    def test_forty_rows(self):
        desk = Desk("knobs 3", (1, 1))
        for _ in range(40):
            self.assertIn(desk.say("row 0 good"), ("3",))
        self.assert_told(desk, ("row 0 good", "bad line"), ("row 1 good", "bad line"), ("left", "3"),
                         ("log", " / ".join(["row 0 good"] * 40)), ("undo", "done"), ("row 1 fails", "1"),
                         ("row 1 fails", "bad line"), ("least", "fault 0.1"))
        self.assertEqual(len(desk.bench), 40)

    def test_the_bench_itself(self):
        desk = Desk("knobs 3", (1, 1))
        self.assertIs(desk.bench, desk.bench)
        self.assertEqual(desk.bench, Bench(OPEN_1, (1, 1)))
        desk.bench.run((1,), False)
        self.assert_told(desk, ("log", "row 1 good"), ("left", "3"), ("row 2 good", "2"))
        self.assertEqual(desk.bench.log, (((1,), False), ((2,), False)))
        with desk.bench.trial():
            self.assert_told(desk, ("undo", "done"), ("undo", "done"), ("row 0 fails", "1"), ("log", "row 0 fails"))
        self.assert_told(desk, ("log", "row 1 good / row 2 good"), ("undo", "done"), ("redo", "done"))

    def test_two_desks(self):
        one, other = Desk("knobs 3", (1, 1)), Desk("knobs 3", (1, 1))
        one.say("row 0 good")
        self.assertEqual((one.say("log"), other.say("log")), ("row 0 good", "none"))


class BadLines(unittest.TestCase):

    def test_lines_that_are_none_of_these(self):
        for log in ((), (((0, 0), True),), (((0, 0), True), ((0, 0), False))):
            desk = desk_of(OPEN_2, (1, 1), log)
            desk.bench.undo()
            stand = stand_of(desk.bench)
            for line in NO_LINES + tuple(value for value in ODD if not isinstance(value, str)):
                self.assertEqual(desk.say(line), "bad line", line)
                self.assertEqual(stand_of(desk.bench), stand)

    def test_rows_that_are_not_let(self):
        desk = desk_of(BARRED_2, (1, 1), [((0, 0), True)])
        stand = stand_of(desk.bench)
        for row in ("0 2", "1 0"):
            for line in (f"row {row} good", f"row {row} fails", f"foretell {row}"):
                self.assertEqual(desk.say(line), "bad line")
        self.assertEqual(stand_of(desk.bench), stand)

    def test_lists_with_words(self):
        desk = desk_of(OPEN_2, (1, 1))
        for value in (["undo"], ("undo",), b"undo", ["row", "0", "0", "good"], {"undo": "undo"}, [["undo"]]):
            self.assertEqual(desk.say(value), "bad line")


class ManyLines(unittest.TestCase):

    def test_rows_of_lines(self):
        draw = Random(66)
        for rig, shape in ((OPEN_1, (1, 1)), (OPEN_1, (1, 2)), (OPEN_2, (2, 1)), (BARRED_2, (1, 2)), (ONE_LET, (1, 1)),
                           (OPEN_3, (2, 1)), (BARRED_3, (2, 2)), (SIX_BARRED, (3, 1)), (OPEN_2, (1, 2))):
            for _ in range(6):
                self.lead(draw, rig, shape)

    def lead(self, draw, rig, shape):
        desk, ran, undone = Desk(rig_text(rig), shape), [], []
        faults = draw.choice(all_faults(rig, shape))
        for _ in range(12):
            row = draw.choice(plain.let_rows(rig))
            outcome = plain.is_failing(row, faults) or draw.randint(0, 9) == 0
            word = draw.choice(("row", "row", "undo", "redo", "bad"))
            if word == "row":
                ran.append((row, outcome))
                undone.clear()
                many = len(plain.left_ones(rig, shape, ran))
                self.assertEqual(desk.say(f"row {words(row)} {'fails' if outcome else 'good'}"), str(many))
            if word == "undo":
                self.assertEqual(desk.say("undo"), "done" if ran else "nothing")
                undone.extend([ran.pop()] if ran else [])
            if word == "redo":
                self.assertEqual(desk.say("redo"), "done" if undone else "nothing")
                ran.extend([undone.pop()] if undone else [])
            if word == "bad":
                self.assertEqual(desk.say(f"row {words(row)} {words(row)} good"), "bad line")
            self.assertEqual(stand_of(desk.bench), (tuple(ran), tuple(undone[::-1])))
            self.assert_answers(desk, rig, shape, ran)

    def assert_answers(self, desk, rig, shape, log):
        left = plain.left_faults(rig, shape, log)
        rows = plain.open_rows(rig, shape, log)
        fewest = plain.fewest_next(rig, shape, log, 3)
        answers = {"rig": rig_text(rig).replace("\n", " / "), "log": log_text(rig, log).replace("\n", " / "),
                   "left": str(len(plain.left_ones(rig, shape, log))),
                   "least": faults_text(rig, shape, left[0]).replace("\n", " / ") if left else "nothing",
                   "next": words(rows[0]) if rows else "none", "fewest": "more" if fewest is None else str(fewest)}
        for row in plain.let_rows(rig)[:4]:
            told = plain.foretold(rig, shape, log, row)
            answers[f"foretell {words(row)}"] = {True: "fails", False: "good", None: "open"}[told]
        for line, answer in answers.items():
            self.assertEqual(desk.say(line), answer, line)
            self.assertEqual(desk.say(line=line), answer, line)
        self.assertEqual(desk.bench.log, tuple(log))


class WrongInputs(unittest.TestCase):

    def test_texts(self):
        for value in ODD:
            if not isinstance(value, str):
                with self.assertRaises(BadText) as caught:
                    Desk(value, None)
                self.assertEqual((caught.exception.line, caught.exception.word), (None, None))
        for text, place in (("", (0, 0)), ("none", (0, 0)), ("knobs 2\n", (1, 0)), ("knobs 2 x", (0, 2)),
                            ("knobs 9\nbarred", (1, 1))):
            with self.assertRaises(BadText) as caught:
                Desk(text, None)
            self.assertEqual((caught.exception.line, caught.exception.word), place)

    def test_rigs_shapes_and_too_great_ones(self):
        for text, path in (("knobs 9", (0, 0)), ("knobs 2\nbarred 0.2", (1, 0))):
            with self.assertRaises(BadRig) as caught:
                Desk(text, None)
            self.assertEqual(caught.exception.path, path)
        for value in ODD + ((2, 1), (1, 3)):
            with self.assertRaises(BadShape) as caught:
                Desk("knobs 3", value)
            self.assertIs(caught.exception.value, value)
        with self.assertRaises(TooGreat) as caught:
            Desk("knobs 4 4 4 4 4", (3, 2))
        self.assertEqual(caught.exception.most, 2000)
        with self.assertRaises(BadShape):
            Desk("knobs 4 4 4 4 4", (4, 2))

    def test_operators(self):
        desk = Desk("knobs 3", (1, 1))
        for value in (Desk("knobs 3", (1, 1)), desk.bench, None, 0, "knobs 3", ()):
            self.assertIs(desk == value, False)
            self.assertIs(desk != value, True)
            for sign in (operator.lt, operator.ge, operator.add, operator.mul, operator.or_):
                with self.assertRaises(TypeError):
                    sign(desk, value)
        for sign in (len, iter, abs):
            with self.assertRaises(TypeError):
                sign(desk)
        with self.assertRaises(AttributeError):
            desk.bench = None

    def test_interface(self):
        self.assertEqual(list(inspect.signature(Desk).parameters), ["text", "shape"])
        self.assertEqual(list(inspect.signature(Desk.say).parameters), ["self", "line"])
        self.assertEqual(Desk.__module__, desk_file.__name__)
        self.assertIsInstance(vars(Desk)["bench"], property)
        self.assertTrue(inspect.isfunction(vars(Desk)["say"]))
        desk = Desk(shape=(1, 2), text="knobs 2 2")
        self.assertEqual((desk.bench.rig, desk.bench.shape), (((2, 2), ()), (1, 2)))


if __name__ == "__main__":
    unittest.main()
