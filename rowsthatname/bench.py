"""A live bench: rows are run on it, taken back, and run again."""

from rowsthatname.errors import BadNumber, TooGreat
from rowsthatname.faults import MOST_ROWS, all_faults, is_outcome
from rowsthatname.logs import left_faults, left_ones
from rowsthatname.rigs import need_row


class Stand:
    """What a bench was when a trial began, and the stand of the same trial further out, or None."""

    def __init__(self, ran, undone, outer):
        self.ran = ran
        self.undone = undone
        self.outer = outer


class Trial:
    """A manager of a block behind which a bench is as it was when the block began."""

    def __init__(self, held):
        self._held = held
        self._stand = None

    def __enter__(self):
        # A trial may be entered again within its own block, so each stand keeps the one further out.
        self._stand = Stand(self._held._ran, self._held._undone, self._stand)
        return self._held

    def __exit__(self, *told):
        self._held._ran = self._stand.ran
        self._held._undone = self._stand.undone
        self._stand = self._stand.outer


class Bench:
    """A rig and a shape, and the log of the rows that were run."""

    def __init__(self, rig, shape):
        # This refuses what is no rig and no shape, and what is too great.
        all_faults(rig, shape)
        self._rig = rig
        self._shape = shape
        # Both are tuples, so that copies and trials can keep them as they are.
        self._ran = ()
        self._undone = ()

    @property
    def rig(self):
        """The rig."""
        return self._rig

    @property
    def shape(self):
        """The shape."""
        return self._shape

    @property
    def log(self):
        """The tuple of the rows that were run and not taken back, with their outcomes."""
        return self._ran

    def left(self):
        """The ascending tuple of all faults that fit."""
        return left_faults(self._rig, self._shape, self._ran)

    def heads(self):
        """The first one of each class of alike faults that fits, ascending."""
        return left_ones(self._rig, self._shape, self._ran)

    def run(self, row, outcome):
        """Runs a row; how many heads there are then."""
        need_row(self._rig, row)
        if not is_outcome(outcome):
            raise BadNumber(outcome)
        if len(self._ran) == MOST_ROWS:
            raise TooGreat(MOST_ROWS)
        self._ran = (*self._ran, (row, outcome))
        self._undone = ()
        return len(self.heads())

    def undo(self):
        """Takes the last row back; whether there was one."""
        if len(self._ran) == 0:
            return False
        self._undone = (*self._undone, self._ran[-1])
        self._ran = self._ran[:-1]
        return True

    def redo(self):
        """Runs again the row that was taken back last; whether there was one."""
        if len(self._undone) == 0:
            return False
        self._ran = (*self._ran, self._undone[-1])
        self._undone = self._undone[:-1]
        return True

    def copy(self):
        """Another bench that stands as this one."""
        other = Bench(self._rig, self._shape)
        other._ran = self._ran
        other._undone = self._undone
        return other

    def trial(self):
        """A manager of a block in which this bench is tried."""
        return Trial(self)

    def __len__(self):
        return len(self._ran)

    def __eq__(self, other):
        return (isinstance(other, Bench) and self._rig == other._rig and self._shape == other._shape
                and self._ran == other._ran)


def under(manager, deed):
    """What a deed returns, called in a with statement over a manager with what this gives."""
    with manager as one:
        return deed(one)
