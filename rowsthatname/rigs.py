"""Rigs, the lots of their settings, and their rows that are let."""

from rowsthatname.errors import BadLot, BadNumber, BadRig, BadRow

MOST_KNOBS = 5
LEAST_VALUES = 2
MOST_VALUES = 4
MOST_SETTINGS = 3
MOST_BARRED = 6


def is_number(value, least, most):
    """Whether a value is an integer from least to most."""
    # To Python True and False are integers; to this package they are not.
    if isinstance(value, bool) or not isinstance(value, int):
        return False
    return least <= value <= most


def need_number(value, least, most):
    """The integer from least to most itself."""
    if not is_number(value, least, most):
        raise BadNumber(value)
    return value


def is_tuple(value, least, most):
    """Whether a value is a tuple of at least and at most so many things."""
    return isinstance(value, tuple) and least <= len(value) <= most


def is_setting(values, value):
    """Whether a value is a setting of knobs with so many values."""
    if not is_tuple(value, 2, 2):
        return False
    knob, worth = value
    return is_number(knob, 0, len(values) - 1) and is_number(worth, 0, values[knob] - 1)


def is_settings(values, value, least, most):
    """Whether a value is an ascending tuple of so many settings of unlike knobs."""
    if not is_tuple(value, least, most):
        return False
    last_knob = -1
    for setting in value:
        # Ascending settings of unlike knobs are those with ascending knobs.
        if not is_setting(values, setting) or setting[0] <= last_knob:
            return False
        last_knob = setting[0]
    return True


def is_lot(values, value):
    """Whether a value is a lot of knobs with so many values."""
    return is_settings(values, value, 1, MOST_SETTINGS)


def is_row(values, value):
    """Whether a value is a row, let or not, of knobs with so many values."""
    if not is_tuple(value, len(values), len(values)):
        return False
    return all([is_number(worth, 0, many - 1) for worth, many in zip(value, values)])


def first_wrong_lot(values, lots):
    """The number of the first thing that is no lot, or not greater than the one ahead; None if there is none."""
    for number, lot in enumerate(lots):
        if not is_lot(values, lot) or (number > 0 and lot <= lots[number - 1]):
            return number
    return None


def need_values(values):
    """Raises BadRig if these are no VALUES of a rig."""
    if not is_tuple(values, 1, MOST_KNOBS):
        raise BadRig((0,))
    for number, many in enumerate(values):
        if not is_number(many, LEAST_VALUES, MOST_VALUES):
            raise BadRig((0, number))


def need_barred(values, barred):
    """Raises BadRig if these are no BARRED of a rig with such VALUES."""
    if not is_tuple(barred, 0, MOST_BARRED):
        raise BadRig((1,))
    number = first_wrong_lot(values, barred)
    if number is not None:
        raise BadRig((1, number))


def need_rig(rig):
    """The rig itself."""
    if not is_tuple(rig, 2, 2):
        raise BadRig(())
    values, barred = rig
    need_values(values)
    need_barred(values, barred)
    return rig


def need_lot(rig, lot):
    """The lot itself."""
    values, _ = need_rig(rig)
    if not is_lot(values, lot):
        raise BadLot(lot)
    return lot


def meets(row, lot):
    """Whether a row has all the values of a lot."""
    return all([row[knob] == value for knob, value in lot])


def meets_any(row, lots):
    """Whether a row meets one of some lots."""
    return any([meets(row, lot) for lot in lots])


def is_let(rig, value):
    """Whether any value is a let row."""
    values, barred = need_rig(rig)
    return is_row(values, value) and not meets_any(value, barred)


def need_row(rig, row):
    """The let row itself."""
    if not is_let(rig, row):
        raise BadRow(row)
    return row


def let_rows(rig):
    """The ascending tuple of all let rows."""
    values, barred = need_rig(rig)
    rows = [()]
    for many in values:
        rows = [row + (value,) for row in rows for value in range(many)]
    return tuple([row for row in rows if not meets_any(row, barred)])


def rows_meeting(rig, lot):
    """The ascending tuple of the let rows that meet a lot."""
    need_lot(rig, lot)
    return tuple([row for row in let_rows(rig) if meets(row, lot)])


def is_met(rig, lot):
    """Whether some let row meets a lot."""
    return len(rows_meeting(rig, lot)) > 0
