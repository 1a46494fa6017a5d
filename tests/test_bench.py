import inspect
import operator
import unittest
from copy import deepcopy
from random import Random

from rowsthatname import bench as bench_file
from rowsthatname.bench import Bench, under
from rowsthatname.errors import BadNumber, BadRig, BadRow, BadShape, FaultError, TooGreat
from tests import plain
from tests.samples import (BARRED_2, BARRED_3, NONE_LET, ODD, ONE_LET, OPEN_1, OPEN_2, OPEN_3, OPEN_5, SIX_BARRED, WIDE)

A, B, C = (((0, 0),),), (((0, 1),),), (((0, 2),),)
ROW = (((0,), True), ((1,), False), ((2,), True), ((1,), True))


def run_all(bench, runs):
    """Runs all these rows; the bench."""
    for row, outcome in runs:
        bench.run(row, outcome)
    return bench


def stand_of(bench):
    """The log, and what can be run again, of a bench, of which a copy is used up."""
    other = bench.copy()
    again = []
    while other.redo():
        again.append(other.log[-1])
    return bench.log, tuple(again)


class Stop(Exception):
    """What ends a block."""


class ByHand(unittest.TestCase):

    def test_a_new_bench(self):
        bench = Bench(OPEN_1, (1, 1))
        self.assertEqual((bench.rig, bench.shape, bench.log), (OPEN_1, (1, 1), ()))
        self.assertIsInstance(bench.log, tuple)
        self.assertEqual(len(bench), 0)
        self.assertEqual(bench.left(), ((), A, B, C))
        self.assertEqual(bench.heads(), ((), A, B, C))
        self.assertIs(bench.undo(), False)
        self.assertIs(bench.redo(), False)

    def test_rows_that_are_run(self):
        bench = Bench(OPEN_1, (1, 2))
        self.assertEqual(bench.run((0,), True), 3)
        self.assertEqual(bench.run((1,), False), 2)
        self.assertEqual(bench.log, (((0,), True), ((1,), False)))
        self.assertEqual(bench.left(), (A, A + C))
        self.assertEqual(bench.run((2,), False), 1)
        self.assertEqual(bench.heads(), (A,))
        self.assertEqual(bench.run((2,), True), 0)
        self.assertEqual((bench.heads(), bench.left(), len(bench)), ((), (), 4))
        self.assertEqual(bench.log[-2:], (((2,), False), ((2,), True)))

    def test_heads_are_the_first_ones_of_what_is_left(self):
        bench = Bench(ONE_LET, (1, 1))
        self.assertEqual(bench.run((1, 1), True), 1)
        self.assertEqual(bench.left(), ((((0, 1),),), (((1, 1),),)))
        self.assertEqual(bench.heads(), ((((0, 1),),),))

    def test_taken_back_and_run_again(self):
        bench = run_all(Bench(OPEN_1, (1, 2)), ROW[:3])
        self.assertIs(bench.redo(), False)
        self.assertIs(bench.undo(), True)
        self.assertIs(bench.undo(), True)
        self.assertEqual((bench.log, len(bench)), (ROW[:1], 1))
        self.assertIs(bench.redo(), True)
        self.assertEqual(bench.log, ROW[:2])
        self.assertIs(bench.redo(), True)
        self.assertIs(bench.redo(), False)
        self.assertEqual(bench.log, ROW[:3])
        # As soon as something is run, what was taken back is gone, also if it is the same.
        for run in (ROW[2], ROW[3]):
            bench = run_all(Bench(OPEN_1, (1, 2)), ROW[:3])
            bench.undo()
            bench.undo()
            bench.run(*ROW[1])
            self.assertIs(bench.redo(), False)
            bench.undo()
            bench.undo()
            self.assertIs(bench.undo(), False)
            bench.run(*run)
            self.assertIs(bench.redo(), False)
            self.assertEqual(bench.log, (run,))

    def test_copies(self):
        bench = run_all(Bench(OPEN_1, (1, 2)), ROW[:3])
        bench.undo()
        other = bench.copy()
        self.assertIsNot(other, bench)
        self.assertIs(other.__class__, Bench)
        self.assertEqual(other, bench)
        self.assertEqual(stand_of(other), (ROW[:2], ROW[2:3]))
        self.assertIs(other.redo(), True)
        self.assertEqual((bench.log, other.log), (ROW[:2], ROW[:3]))
        self.assertEqual(stand_of(bench), (ROW[:2], ROW[2:3]))
        bench.run(*ROW[3])
        other.undo()
        self.assertEqual((bench.log, other.log), (ROW[:2] + ROW[3:], ROW[:2]))
        self.assertEqual(stand_of(other), (ROW[:2], ROW[2:3]))
        self.assertEqual(stand_of(bench), (ROW[:2] + ROW[3:], ()))

    def test_logs_that_were_told_do_not_change(self):
        bench = run_all(Bench(OPEN_1, (1, 2)), ROW[:2])
        log, left = bench.log, bench.left()
        bench.run(*ROW[2])
        bench.undo()
        bench.undo()
        self.assertEqual(log, ROW[:2])
        self.assertEqual(left, (A, A + C))

    def test_equal_benches(self):
        bench = run_all(Bench(OPEN_1, (1, 2)), ROW[:2])
        other = run_all(Bench(((3,), ()), (1, 2)), ROW[:3])
        self.assertIs(bench == other, False)
        self.assertIs(bench != other, True)
        other.undo()
        # What was taken back is not looked at.
        self.assertIs(bench == other, True)
        self.assertIs(bench != other, False)
        self.assertIs(bench == bench, True)
        unlike = (Bench(OPEN_1, (1, 2)), run_all(Bench(OPEN_1, (1, 1)), ROW[:2]),
                  run_all(Bench(((4,), ()), (1, 2)), ROW[:2]),
                  run_all(Bench(OPEN_1, (1, 2)), ROW[1::-1]), run_all(Bench(OPEN_1, (1, 2)), (ROW[0], ((1,), True))),
                  run_all(Bench(((3,), (((0, 2),),)), (1, 2)), ROW[:2]))
        for one in unlike:
            self.assertIs(bench == one, False)
            self.assertIs(bench != one, True)

    def test_forty_rows(self):
        bench = Bench(OPEN_1, (1, 1))
        for number in range(40):
            self.assertEqual(bench.run((number % 2,), False), 3 if number == 0 else 2)
        self.assert_full(bench)
        self.assertIs(bench.undo(), True)
        self.assertEqual(bench.run((2,), False), 1)
        self.assert_full(bench)
        bench.undo()
        bench.undo()
        self.assertIs(bench.redo(), True)
        self.assertIs(bench.redo(), True)
        self.assert_full(bench)
        self.assertEqual(bench.log[-1], ((2,), False))
        self.assert_full(bench.copy())
        with bench.trial() as one:
            self.assert_full(one)

    def assert_full(self, bench):
        stand = stand_of(bench)
        with self.assertRaises(TooGreat) as caught:
            bench.run((0,), False)
        self.assertEqual(caught.exception.most, 40)
        for row, outcome, kind in (((3,), False, BadRow), ((3,), None, BadRow), ((0,), 0, BadNumber)):
            with self.assertRaises(kind):
                bench.run(row, outcome)
        self.assertEqual(stand_of(bench), stand)
        self.assertEqual(len(bench), 40)

    def test_what_is_taken_back_is_kept_by_a_call_that_raises(self):
        bench = run_all(Bench(OPEN_1, (1, 1)), ROW[:2])
        bench.undo()
        for row, outcome in (((3,), True), ((0,), 1), (None, None)):
            with self.assertRaises(FaultError):
                bench.run(row, outcome)
            self.assertEqual(stand_of(bench), (ROW[:1], ROW[1:2]))


class Trials(unittest.TestCase):

    def setUp(self):
        self.bench = run_all(Bench(OPEN_1, (1, 2)), ROW[:3])
        self.bench.undo()
        self.stand = (ROW[:2], ROW[2:3])

    def test_the_bench_itself_is_tried(self):
        with self.bench.trial() as one:
            self.assertIs(one, self.bench)
            self.assertEqual(stand_of(one), self.stand)
            one.run(*ROW[3])
            self.assertEqual(self.bench.log, ROW[:2] + ROW[3:])
            self.assertIs(one.redo(), False)
        self.assertEqual(stand_of(self.bench), self.stand)

    def test_taken_back_behind_the_beginning(self):
        with self.bench.trial() as one:
            while one.undo():
                pass
            self.assertEqual(len(one), 0)
        self.assertEqual(stand_of(self.bench), self.stand)
        with self.bench.trial():
            self.bench.redo()
        self.assertEqual(stand_of(self.bench), self.stand)
        with self.bench.trial():
            pass
        self.assertEqual(stand_of(self.bench), self.stand)

    def test_errors_pass(self):
        for error in (Stop("x"), TooGreat(1), ValueError("y"), KeyboardInterrupt()):
            with self.assertRaises(error.__class__) as caught:
                with self.bench.trial() as one:
                    one.run(*ROW[0])
                    raise error
            self.assertIs(caught.exception, error)
            self.assertEqual(stand_of(self.bench), self.stand)
        with self.assertRaises(BadRow):
            with self.bench.trial() as one:
                one.run(*ROW[0])
                one.run((9,), True)
        self.assertEqual(stand_of(self.bench), self.stand)

    def test_trials_within_trials(self):
        with self.bench.trial():
            self.bench.run(*ROW[3])
            self.bench.undo()
            inner = stand_of(self.bench)
            self.assertEqual(inner, (ROW[:2], ROW[3:]))
            with self.bench.trial() as two:
                two.undo()
                two.run(*ROW[0])
                with self.bench.trial() as three:
                    three.undo()
                    three.undo()
                    self.assertEqual(len(self.bench), 0)
                self.assertEqual(self.bench.log, (ROW[0], ROW[0]))
            self.assertEqual(stand_of(self.bench), inner)
            with self.assertRaises(Stop):
                with self.bench.trial() as two:
                    two.redo()
                    raise Stop()
            self.assertEqual(stand_of(self.bench), inner)
        self.assertEqual(stand_of(self.bench), self.stand)

    def test_a_trial_that_is_made_ahead_and_entered_later(self):
        trial = self.bench.trial()
        self.bench.redo()
        self.bench.run(*ROW[0])
        self.bench.undo()
        stand = stand_of(self.bench)
        self.assertEqual(stand, (ROW[:3], ROW[:1]))
        with trial as one:
            self.assertIs(one, self.bench)
            one.undo()
            one.undo()
        self.assertEqual(stand_of(self.bench), stand)

    def test_a_trial_that_is_entered_again(self):
        trial = self.bench.trial()
        with trial:
            self.bench.run(*ROW[0])
        self.bench.redo()
        with trial as one:
            one.undo()
            with trial as two:
                self.assertIs(two, self.bench)
                two.undo()
                two.undo()
            self.assertEqual(stand_of(self.bench), self.stand)
            one.undo()
        self.assertEqual(stand_of(self.bench), (ROW[:3], ()))

    def test_a_trial_that_is_not_entered(self):
        self.bench.trial()
        self.bench.run(*ROW[3])
        self.assertEqual(self.bench.log, ROW[:2] + ROW[3:])

    def test_copies_in_a_trial(self):
        with self.bench.trial() as one:
            one.run(*ROW[3])
            other = one.copy()
            other.run(*ROW[0])
        self.assertEqual(stand_of(self.bench), self.stand)
        self.assertEqual(other.log, ROW[:2] + ROW[3:] + ROW[:1])
        with other.trial() as two:
            self.assertIs(two, other)
            two.undo()
            self.bench.undo()
        self.assertEqual((len(other), len(self.bench)), (4, 1))


class Under(unittest.TestCase):

    def test_what_the_deed_returns(self):
        bench = run_all(Bench(OPEN_1, (1, 2)), ROW[:1])
        given = []

        def deed(one):
            given.append(one)
            return one.run((1,), False), one.log

        trial = bench.trial()
        self.assertEqual(under(trial, deed), (2, (ROW[0], ((1,), False))))
        self.assertIs(given[0], bench)
        self.assertEqual(bench.log, ROW[:1])
        self.assertEqual(under(manager=trial, deed=len), 1)
        self.assertEqual(under(deed=len, manager=trial), 1)
        self.assertIsNone(under(trial, lambda one: None))
        self.assertEqual(under(trial, lambda one: under(bench.trial(), lambda two: two is one and two.undo())), True)
        self.assertEqual(bench.log, ROW[:1])

    def test_a_deed_that_raises(self):
        bench = run_all(Bench(OPEN_1, (1, 2)), ROW[:2])
        bench.undo()
        error = Stop("x")

        def deed(one):
            one.run(*ROW[2])
            raise error

        with self.assertRaises(Stop) as caught:
            under(bench.trial(), deed)
        self.assertIs(caught.exception, error)
        self.assertEqual(stand_of(bench), (ROW[:1], ROW[1:2]))
        with self.assertRaises(BadNumber):
            under(bench.trial(), lambda one: one.run((0,), None))
        self.assertEqual(stand_of(bench), (ROW[:1], ROW[1:2]))

    def test_other_managers(self):
        told = []

        class Manager:
            def __init__(self, passes):
                self.passes = passes

            def __enter__(self):
                told.append("in")
                return 7

            def __exit__(self, *given):
                told.append(given[0])
                return self.passes

        self.assertEqual(under(Manager(False), lambda one: one + 1), 8)
        self.assertEqual(told, ["in", None])
        # What is told of an error that the manager holds back is nothing.
        self.assertIsNone(under(Manager(True), lambda one: [].pop()))
        self.assertEqual(told[2:], ["in", IndexError])
        with self.assertRaises(IndexError):
            under(Manager(False), lambda one: [].pop())


class ManyDeeds(unittest.TestCase):

    def test_rows_of_deeds(self):
        draw = Random(63)
        for rig, shape in ((OPEN_1, (1, 1)), (OPEN_1, (1, 2)), (OPEN_2, (2, 1)), (BARRED_2, (1, 2)), (ONE_LET, (1, 1)),
                           (OPEN_3, (2, 1)), (BARRED_3, (2, 2)), (SIX_BARRED, (3, 1))):
            for _ in range(12):
                self.lead(draw, Bench(rig, shape), [], [], 30)

    def lead(self, draw, bench, ran, undone, many):
        """Does so many things with a bench, and with lists beside it."""
        for _ in range(many):
            deed = draw.choice(("run", "run", "run", "undo", "undo", "redo", "copy", "trial", "fall", "wrong"))
            if deed == "run" and len(ran) < 40:
                row, outcome = draw.choice(plain.let_rows(bench.rig)), draw.choice((True, False, False))
                ran.append((row, outcome))
                undone.clear()
                self.assertEqual(bench.run(row, outcome), len(plain.left_ones(bench.rig, bench.shape, ran)))
            if deed == "undo":
                self.assertIs(bench.undo(), len(ran) > 0)
                undone.extend([ran.pop()] if ran else [])
            if deed == "redo":
                self.assertIs(bench.redo(), len(undone) > 0)
                ran.extend([undone.pop()] if undone else [])
            if deed == "copy":
                self.lead(draw, bench.copy(), list(ran), list(undone), many // 4)
            if deed == "trial":
                with bench.trial() as one:
                    self.lead(draw, one, list(ran), list(undone), many // 3)
            if deed == "fall":
                with self.assertRaises(Stop):
                    with bench.trial() as one:
                        self.lead(draw, one, list(ran), list(undone), many // 3)
                        raise Stop()
            if deed == "wrong":
                with self.assertRaises((BadRow, BadNumber)):
                    bench.run(*draw.choice([((9,), True), (plain.let_rows(bench.rig)[0], 1), (None, None)]))
            self.assert_stands(bench, ran, undone)

    def assert_stands(self, bench, ran, undone):
        self.assertEqual(stand_of(bench), (tuple(ran), tuple(undone[::-1])))
        self.assertEqual(len(bench), len(ran))
        self.assertEqual(bench.left(), plain.left_faults(bench.rig, bench.shape, ran))
        self.assertEqual(bench.heads(), plain.left_ones(bench.rig, bench.shape, ran))


class WrongInputs(unittest.TestCase):

    def test_rigs_and_shapes(self):
        for rig, path in ((None, ()), (((2, 5), ()), (0, 1)), (((2, 2), (((0, 2),),)), (1, 0))):
            with self.assertRaises(BadRig) as caught:
                Bench(rig, None)
            self.assertEqual(caught.exception.path, path)
        for value in ODD + ((2, 1), (1, 3), [1, 1]):
            with self.assertRaises(BadShape) as caught:
                Bench(OPEN_1, value)
            self.assertIs(caught.exception.value, value)
        for rig in (WIDE, OPEN_5):
            with self.assertRaises(TooGreat) as caught:
                Bench(rig, (3, 2))
            self.assertEqual(caught.exception.most, 2000)
            with self.assertRaises(BadShape):
                Bench(rig, (3, 3))
            self.assertEqual(Bench(rig, (3, 1)).run((0,) * 5, True), 10)

    def test_rows_and_outcomes(self):
        bench = Bench(BARRED_2, (1, 1))
        for row in ODD + ((0, 2), (1, 0), [0, 0], (0,), (0, 0, 0), (0, False), "00", ((0, 0),)):
            for outcome in (True, None):
                with self.assertRaises(BadRow) as caught:
                    bench.run(row, outcome)
                self.assertIs(caught.exception.value, row)
        for outcome in ODD + ("fails", "good", (True,)):
            if outcome is not True and outcome is not False:
                with self.assertRaises(BadNumber) as caught:
                    bench.run((0, 0), outcome)
                self.assertIs(caught.exception.value, outcome)
        self.assertEqual(bench.log, ())
        with self.assertRaises(BadRow):
            Bench(NONE_LET, (1, 1)).run((0, 0), True)

    def test_what_is_passed_stays_as_it_was(self):
        for row, outcome in (([0, 0], [True]), ((0, [0]), {}), ((0, 0), [[1]])):
            kept = deepcopy((row, outcome))
            with self.assertRaises(FaultError):
                Bench(BARRED_2, (1, 1)).run(row, outcome)
            self.assertEqual((row, outcome), kept)

    def test_other_values_are_not_equal(self):
        bench = run_all(Bench(OPEN_1, (1, 2)), ROW[:2])
        for value in ODD + (bench.log, (OPEN_1, (1, 2), ROW[:2]), bench.trial(), Bench):
            self.assertIs(bench == value, False)
            self.assertIs(value == bench, False)
            self.assertIs(bench != value, True)
            self.assertIs(value != bench, True)

    def test_other_operators(self):
        bench = run_all(Bench(OPEN_1, (1, 2)), ROW[:2])
        for sign in (operator.lt, operator.le, operator.gt, operator.ge, operator.add, operator.sub, operator.mul,
                     operator.floordiv, operator.truediv, operator.mod, operator.pow, operator.and_, operator.or_,
                     operator.xor, operator.lshift, operator.rshift, operator.matmul, operator.iadd, operator.imul):
            for value in (bench, bench.copy(), bench.trial(), 0, 2, True, "a", (), [], None, {}, ROW):
                for one, other in ((bench, value), (value, bench), (bench.trial(), value)):
                    if sign is operator.iadd and isinstance(one, list) or sign is operator.mod and isinstance(one, str):
                        continue
                    with self.assertRaises(TypeError):
                        sign(one, other)
        for sign in (operator.neg, operator.pos, operator.invert, abs, iter, len):
            with self.assertRaises(TypeError):
                sign(bench.trial())
            if sign is not len:
                with self.assertRaises(TypeError):
                    sign(bench)
        for sign in (operator.contains, operator.getitem):
            with self.assertRaises(TypeError):
                sign(bench, 0)

    def test_properties_are_not_set(self):
        bench = Bench(OPEN_1, (1, 2))
        for name in ("rig", "shape", "log"):
            with self.assertRaises(AttributeError):
                setattr(bench, name, ())


class Interface(unittest.TestCase):

    def test_parameters(self):
        for call, names in ((Bench, ["rig", "shape"]), (Bench.run, ["self", "row", "outcome"]),
                            (under, ["manager", "deed"]),
                            (Bench.left, ["self"]), (Bench.heads, ["self"]), (Bench.undo, ["self"]),
                            (Bench.redo, ["self"]), (Bench.copy, ["self"]), (Bench.trial, ["self"])):
            self.assertEqual(list(inspect.signature(call).parameters), names)

    def test_by_names_in_any_order(self):
        bench = Bench(shape=(1, 2), rig=OPEN_1)
        self.assertEqual(bench, Bench(OPEN_1, shape=(1, 2)))
        self.assertEqual(bench.run(outcome=True, row=(0,)), 3)
        self.assertEqual(bench.run((1,), outcome=False), 2)
        self.assertEqual(bench.log, ROW[:2])

    def test_each_stands_in_the_class_itself(self):
        for name in ("left", "heads", "run", "undo", "redo", "copy", "trial", "__len__", "__eq__"):
            self.assertTrue(inspect.isfunction(vars(Bench)[name]), name)
        for name in ("rig", "shape", "log"):
            self.assertIsInstance(vars(Bench)[name], property)
        self.assertEqual((Bench.__module__, under.__module__), (bench_file.__name__,) * 2)

    def test_what_is_told_twice_is_equal(self):
        bench = run_all(Bench(BARRED_3, (2, 2)), [((0, 0, 0), True), ((1, 1, 1), False)])
        for tell in (Bench.left, Bench.heads, len, lambda one: one.log, lambda one: one.rig, lambda one: one.shape):
            self.assertEqual(tell(bench), tell(bench))
        self.assertEqual(stand_of(bench), stand_of(bench))


if __name__ == "__main__":
    unittest.main()
