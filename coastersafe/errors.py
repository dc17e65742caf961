"""The errors of the program."""


class CoasterError(ValueError):
    """The base class of all errors of the program."""


class BadNumber(CoasterError):
    """A number is out of its range."""


class InvalidLayout(CoasterError):
    """Segments break the rules of layouts."""


class InvalidTrain(CoasterError):
    """Bounds break the rules of trains."""


class InvalidRide(CoasterError):
    """Ways, scans and trains break the rules of rides."""


class InvalidText(CoasterError):
    """A line of a text is wrong; lines are counted from 1."""

    def __init__(self, line):
        self.line = line


class NotFitting(CoasterError):
    """Two things do not fit together."""


class UnknownName(CoasterError):
    """A name is not declared."""

    def __init__(self, name):
        self.name = name


class TooLarge(CoasterError):
    """A search found more than its limit."""

    def __init__(self, limit):
        self.limit = limit
