"""Errors: a class for each kind of failure, which keeps its fields just as they are."""


class PointError(ValueError):
    """What all errors of the package are."""


class BadNumber(PointError):
    """A number is none, or lies beyond its bounds."""

    def __init__(self, what, value):
        self.what = what
        self.value = value


class BadProgram(PointError):
    """Something in the block of a program is wrong."""

    def __init__(self, value):
        self.value = value


class BadText(PointError):
    """A word of a text is wrong, or lacks."""

    def __init__(self, line, column):
        self.line = line
        self.column = column


class BadName(PointError):
    """A name is none."""

    def __init__(self, name):
        self.name = name


class NoName(PointError):
    """Nothing has this name."""

    def __init__(self, name):
        self.name = name


class TakenName(PointError):
    """Something has this name already."""

    def __init__(self, name):
        self.name = name


class BadRow(PointError):
    """A row is none, or has not the items that it must have."""

    def __init__(self, value):
        self.value = value


class BadPlace(PointError):
    """A place is none, or can not be used here."""

    def __init__(self, value):
        self.value = value


class BadPoint(PointError):
    """A point is none of the graph, or can not be used here."""

    def __init__(self, value):
        self.value = value


class Unlike(PointError):
    """Two things do not fit together."""

    def __init__(self, what):
        self.what = what


class TooMany(PointError):
    """There is more of something than the limit lets by."""

    def __init__(self, what, limit):
        self.what = what
        self.limit = limit


class NotKept(PointError):
    """A promise does not hold; the witness shows it."""

    def __init__(self, promise, witness):
        self.promise = promise
        self.witness = witness


class BadPromise(PointError):
    """A word of a promise is wrong, or lacks."""

    def __init__(self, column):
        self.column = column


class NothingToUndo(PointError):
    """There is no edit to take back."""


class NothingToRedo(PointError):
    """There is no edit to do again."""
