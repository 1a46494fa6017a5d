"""The errors of the package."""


class FaultError(ValueError):
    """An argument that is refused."""


class BadRig(FaultError):
    """No rig: the path leads to its first wrong part."""

    def __init__(self, path):
        FaultError.__init__(self, f"no rig: wrong at {path}")
        self.path = path


class BadShape(FaultError):
    """No shape of the rig."""

    def __init__(self, value):
        FaultError.__init__(self, "no shape of the rig")
        self.value = value


class BadLot(FaultError):
    """No lot of the rig."""

    def __init__(self, value):
        FaultError.__init__(self, "no lot of the rig")
        self.value = value


class BadFaults(FaultError):
    """No faults of the rig and the shape."""

    def __init__(self, value):
        FaultError.__init__(self, "no faults of the rig and the shape")
        self.value = value


class BadSuite(FaultError):
    """No suite: the place is the number of its first wrong row, or None."""

    def __init__(self, place):
        FaultError.__init__(self, f"no suite of the rig: wrong at {place}")
        self.place = place


class BadOutcomes(FaultError):
    """No outcomes of the suite."""

    def __init__(self, value):
        FaultError.__init__(self, "no outcomes of the suite")
        self.value = value


class BadNumber(FaultError):
    """No number that can stand there."""

    def __init__(self, value):
        FaultError.__init__(self, "no number that can stand here")
        self.value = value


class BadPaper(FaultError):
    """No paper that holds: the word tells which kind it fails to be."""

    def __init__(self, word):
        FaultError.__init__(self, f"no paper that holds: {word}")
        self.word = word


class BadLog(FaultError):
    """No log: the place is the number of its first wrong pair, or None."""

    def __init__(self, place):
        FaultError.__init__(self, f"no log of the rig: wrong at {place}")
        self.place = place


class BadRow(FaultError):
    """No let row of the rig."""

    def __init__(self, value):
        FaultError.__init__(self, "no row of the rig that is let")
        self.value = value


class BadText(FaultError):
    """No text that can be read: the line and the word where it fails."""

    def __init__(self, line, word):
        FaultError.__init__(self, f"no such text: wrong at line {line}, word {word}")
        self.line = line
        self.word = word


class TooGreat(OverflowError):
    """More than there may be."""

    def __init__(self, most):
        OverflowError.__init__(self, f"more than {most}")
        self.most = most
