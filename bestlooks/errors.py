"""The errors of the whole program. Each keeps its fields just as they are given."""


class LookError(ValueError):
    """What all errors of the program are."""


class BadText(LookError):
    """A text that is none of its kind, wrong from a column on."""

    def __init__(self, column):
        self.column = column


class BadLine(LookError):
    """A text of items with a wrong line, wrong from a column on."""

    def __init__(self, line, column):
        self.line = line
        self.column = column


class BadNumber(LookError):
    """A value that is not the number that is asked for."""

    def __init__(self, what, number):
        self.what = what
        self.number = number


class BadRow(LookError):
    """A value that is not the row that is asked for."""

    def __init__(self, row):
        self.row = row


class BadInterval(LookError):
    """Two values that are not the ends of a stretch."""

    def __init__(self, low, high):
        self.low = low
        self.high = high


class BadName(LookError):
    """A value that is no name."""

    def __init__(self, name):
        self.name = name


class Unlike(LookError):
    """Values that do not fit together."""

    def __init__(self, what):
        self.what = what


class NoName(LookError):
    """A name that nothing has."""

    def __init__(self, name):
        self.name = name


class TakenName(LookError):
    """A name that something has already."""

    def __init__(self, name):
        self.name = name


class NotKept(LookError):
    """A promise that does not hold, and what shows it."""

    def __init__(self, promise, witness):
        self.promise = promise
        self.witness = witness


class NothingToUndo(LookError):
    """No edit stands."""


class NothingToRedo(LookError):
    """No edit was taken back."""
