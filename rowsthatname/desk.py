"""A desk: lines of words that lead a bench, and their answers."""

from rowsthatname.bench import Bench
from rowsthatname.errors import FaultError, TooGreat
from rowsthatname.games import MOST_NEXT, fewest_next
from rowsthatname.logs import foretold, open_rows
from rowsthatname.texts import faults_text, log_text, read_rig, read_row, read_run, rig_text, values_text

BAD_LINE = "bad line"


def in_one_line(text):
    """A text with its lines beside one another."""
    return text.replace("\n", " / ")


def say_undo(bench):
    """Takes a row back."""
    return "done" if bench.undo() else "nothing"


def say_redo(bench):
    """Runs a row again."""
    return "done" if bench.redo() else "nothing"


def say_rig(bench):
    """The rig."""
    return in_one_line(rig_text(bench.rig))


def say_log(bench):
    """The log."""
    return in_one_line(log_text(bench.rig, bench.log))


def say_left(bench):
    """How many heads there are."""
    return str(len(bench.heads()))


def say_least(bench):
    """The first faults that fit."""
    left = bench.left()
    if len(left) == 0:
        return "nothing"
    return in_one_line(faults_text(bench.rig, bench.shape, left[0]))


def say_next(bench):
    """The first open row."""
    rows = open_rows(bench.rig, bench.shape, bench.log)
    if len(rows) == 0:
        return "none"
    return values_text(rows[0])


def say_fewest(bench):
    """The fewest next rows that are enough."""
    fewest = fewest_next(bench.rig, bench.shape, bench.log, MOST_NEXT)
    return "more" if fewest is None else str(fewest)


ANSWERS = {"undo": say_undo, "redo": say_redo, "rig": say_rig, "log": say_log, "left": say_left,
           "least": say_least, "next": say_next, "fewest": say_fewest}


def say_row(bench, words):
    """Runs a row; how many heads there are then."""
    row, outcome = read_run(bench.rig, 0, words)
    return str(bench.run(row, outcome))


def say_foretell(bench, words):
    """What is foretold of a row."""
    row = read_row(bench.rig, 0, words, "foretell", [])
    outcome = foretold(bench.rig, bench.shape, bench.log, row)
    if outcome is None:
        return "open"
    return "fails" if outcome else "good"


def answer_to(bench, line):
    """The answer to a line; a line that cannot be read, and a row that cannot be run, raise their errors."""
    words = line.split(" ")
    if words[0] == "row":
        return say_row(bench, words)
    if words[0] == "foretell":
        return say_foretell(bench, words)
    if line not in ANSWERS:
        return BAD_LINE
    action = ANSWERS[line]
    return action(bench)


class Desk:
    """A bench that is led by lines."""

    def __init__(self, text, shape):
        self._bench = Bench(read_rig(text), shape)

    @property
    def bench(self):
        """The bench itself."""
        return self._bench

    def say(self, line):
        """The answer to a line."""
        if not isinstance(line, str):
            return BAD_LINE
        try:
            return answer_to(self._bench, line)
        except (FaultError, TooGreat):
            return BAD_LINE
