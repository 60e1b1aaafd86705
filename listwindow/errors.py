"""The errors of the package. Each one keeps what was refused, as it is, in its attribute value."""


class WindowError(ValueError):
    """The base class of all errors of the package."""

    def __init__(self, value):
        self.value = value


class InvalidNumber(WindowError):
    """A number, a width among them, that is too small, or does not fit another one."""


class InvalidRow(WindowError):
    """A row that a table does not have, or a number of cells that is not that of its columns."""


class InvalidColumn(WindowError):
    """A column that there is not."""


class InvalidSorting(WindowError):
    """Keys that are no sorting, or a tuple that is the form of no clicks."""


class InvalidOrder(WindowError):
    """A list of rows that is not each row of a table once."""


class InvalidFilters(WindowError):
    """A number of filters that is not the right one."""


class InvalidRows(WindowError):
    """A list of rows in which one stands twice, or that lacks rows or has one too many."""


class InvalidPosition(WindowError):
    """A position at which nothing stands."""


class InvalidMarks(WindowError):
    """Marks that are not strictly ascending, or not where they may be."""


class InvalidValue(WindowError):
    """A value, or a list or tuple of values, that does not fit."""


class InvalidName(WindowError):
    """A string that is not the name of a place."""


class UnknownPlace(WindowError):
    """A name of a place that is not there, or that is taken."""


class InvalidDeed(WindowError):
    """A deed that is none of those that may be done."""


class NothingToUndo(WindowError):
    """There is nothing to take back, or to do again."""


class Unreadable(WindowError):
    """A text that nothing has."""
