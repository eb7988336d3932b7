"""The errors of the package, also those that only later parts of it raise."""


class SparkError(ValueError):
    """Whatever the package refuses."""


class BadWidth(SparkError):
    """A value that is no width from 1 to 3."""

    def __init__(self, value):
        self.value = value


class BadPairs(SparkError):
    """A value that is no list or tuple of unlike pairs of rows."""

    def __init__(self, value):
        self.value = value


class BadColumns(SparkError):
    """A value that is no list or tuple of columns."""

    def __init__(self, value):
        self.value = value


class BadColumn(SparkError):
    """The place of the first thing among columns that is no column."""

    def __init__(self, number):
        self.number = number


class BadCell(SparkError):
    """A value that is no cell."""

    def __init__(self, value):
        self.value = value


class OtherFrame(SparkError):
    """Two things that do not fit together: their frames or widths are unlike."""


class TooShort(SparkError):
    """So many columns are too few for a web."""

    def __init__(self, many):
        self.many = many


class NoSeat(SparkError):
    """A value that is no seat of the web."""

    def __init__(self, value):
        self.value = value


class BadSeats(SparkError):
    """A value that is no list of unlike seats."""

    def __init__(self, value):
        self.value = value


class BadTable(SparkError):
    """A value that has not the form of a table."""

    def __init__(self, value):
        self.value = value


class NoColumns(SparkError):
    """A stretch without columns where one with columns is asked for."""


class BadTimes(SparkError):
    """A value that is no number of times."""

    def __init__(self, value):
        self.value = value


class NoWeb(SparkError):
    """A value that is no size at which the family has a web."""

    def __init__(self, value):
        self.value = value


class OtherShape(SparkError):
    """Two families that are not shaped alike."""


class ClosedWeb(SparkError):
    """A ring where an open web, or a family of such, is asked for."""


class BadPrices(SparkError):
    """A value that is no prices."""

    def __init__(self, value):
        self.value = value


class BadSize(SparkError):
    """A value that is no size."""

    def __init__(self, value):
        self.value = value


class NoForecast(SparkError):
    """There is no forecast within so many sizes."""


class CannotJoin(SparkError):
    """A seat that cannot join now."""

    def __init__(self, value):
        self.value = value


class IsIn(SparkError):
    """A seat that is in already."""

    def __init__(self, value):
        self.value = value


class NotIn(SparkError):
    """A seat that is not in."""

    def __init__(self, value):
        self.value = value


class BadNeed(SparkError):
    """A value that is no need."""

    def __init__(self, value):
        self.value = value


class Nothing(SparkError):
    """There is no event that could be taken back."""


class BadLine(SparkError):
    """The number of the first line with which a text goes wrong."""

    def __init__(self, line):
        self.line = line
