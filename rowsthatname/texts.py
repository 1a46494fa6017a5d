"""Texts of rigs, of faults and of logs, and the way back."""

from rowsthatname.errors import BadText
from rowsthatname.faults import MOST_LOTS, MOST_ROWS, need_faults, need_shape
from rowsthatname.logs import need_log
from rowsthatname.rigs import MOST_BARRED, MOST_KNOBS, MOST_SETTINGS, need_rig

FIGURES = "0123456789"
# What may stand in a place of a line: 0 stands for any figure, each other sign for itself.
FIGURE = ("0",)
SETTING = ("0.0",)
OUTCOME = ("fails", "good")
NONE = "none"


def values_text(values):
    """Values as words."""
    return " ".join([str(value) for value in values])


def lot_line(word, lot):
    """A line with the settings of a lot behind a word."""
    return " ".join([word, *[f"{knob}.{value}" for knob, value in lot]])


def run_line(row, outcome):
    """A line with a row that was run."""
    end = "fails" if outcome else "good"
    return f"row {values_text(row)} {end}"


def rig_text(rig):
    """The text of a rig."""
    values, barred = need_rig(rig)
    return "\n".join([f"knobs {values_text(values)}", *[lot_line("barred", lot) for lot in barred]])


def faults_text(rig, shape, faults):
    """The text of faults."""
    need_faults(rig, shape, faults)
    return "\n".join([lot_line("fault", lot) for lot in faults]) if faults else NONE


def log_text(rig, log):
    """The text of a log."""
    need_log(rig, log)
    return "\n".join([run_line(row, outcome) for row, outcome in log]) if log else NONE


def lines_of(text):
    """The words of each line of a text."""
    if not isinstance(text, str):
        raise BadText(None, None)
    return [line.split(" ") for line in text.split("\n")]


def is_like(word, form):
    """Whether a word has a form."""
    if len(word) != len(form):
        return False
    return all([sign in FIGURES if wanted == "0" else sign == wanted for sign, wanted in zip(word, form)])


def need_words(number, words, forms, least):
    """Raises BadText at the first word of a line that cannot stand there by the forms of its place."""
    for place, word in enumerate(words):
        if place == len(forms) or not any([is_like(word, form) for form in forms[place]]):
            raise BadText(number, place)
    if len(words) < least:
        raise BadText(number, len(words))


def read_lots(lines, start, word, most):
    """The lots of the lines from one on, at most so many, each behind a word."""
    forms = [(word,)] + [SETTING] * MOST_SETTINGS
    lots = []
    for number in range(start, len(lines)):
        if number == start + most:
            raise BadText(number, 0)
        need_words(number, lines[number], forms, 2)
        lots.append(tuple([(int(setting[0]), int(setting[2])) for setting in lines[number][1:]]))
    return tuple(lots)


def read_rig(text):
    """The rig of a text."""
    lines = lines_of(text)
    need_words(0, lines[0], [("knobs",)] + [FIGURE] * MOST_KNOBS, 2)
    values = tuple([int(word) for word in lines[0][1:]])
    return need_rig((values, read_lots(lines, 1, "barred", MOST_BARRED)))


def read_faults(rig, shape, text):
    """The faults of a text."""
    need_shape(rig, shape)
    lines = lines_of(text)
    lots = () if text == NONE else read_lots(lines, 0, "fault", MOST_LOTS)
    return need_faults(rig, shape, lots)


def read_row(rig, number, words, first, last):
    """The values, one for each knob, in a line with a word first, and forms of what comes last."""
    values, _ = need_rig(rig)
    forms = [(first,)] + [FIGURE] * len(values) + last
    need_words(number, words, forms, len(forms))
    return tuple([int(word) for word in words[1:len(values) + 1]])


def read_run(rig, number, words):
    """The pair of the values and the outcome in a line of a log."""
    row = read_row(rig, number, words, "row", [OUTCOME])
    return row, words[-1] == "fails"


def read_log(rig, text):
    """The log of a text."""
    need_rig(rig)
    lines = lines_of(text)
    if text == NONE:
        return ()
    runs = []
    for number, words in enumerate(lines):
        if number == MOST_ROWS:
            raise BadText(number, 0)
        runs.append(read_run(rig, number, words))
    return need_log(rig, tuple(runs))
