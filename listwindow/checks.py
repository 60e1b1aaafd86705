"""What more than one module refuses. The lists in errors are copies, so that they belong to the error alone."""

from listwindow.errors import InvalidColumn, InvalidDeed, InvalidFilters, InvalidMarks, InvalidName, InvalidNumber
from listwindow.errors import InvalidOrder, InvalidPosition, InvalidRow, InvalidRows, InvalidSorting, InvalidValue
from listwindow.errors import UnknownPlace
from listwindow.naming import is_name

PARTS = {"sort": 1, "only": 3, "fold": 1, "one": 1, "all": 0, "click": 1, "range": 1, "turn": 1, "visit": 1}


def check_number(number):
    if number < 0:
        raise InvalidNumber(number)


def check_width(width):
    if width < 1:
        raise InvalidNumber(width)


def check_height(height):
    if height < 1:
        raise InvalidNumber(height)


def check_column(width, column):
    if not 0 <= column < width:
        raise InvalidColumn(column)


def check_columns(width, columns):
    for column in columns:
        check_column(width, column)


def check_columns_from_zero(columns):
    for column in columns:
        if column < 0:
            raise InvalidColumn(column)


def check_deed_columns(width, deeds):
    """The deeds of a view name a column, if they do, behind the word "sort" or "only"."""
    check_columns(width, [deed[1] for deed in deeds if deed[0] in ("sort", "only")])


def check_row(number, row):
    if not 0 <= row < number:
        raise InvalidRow(row)


def check_rows(number, rows):
    for row in rows:
        check_row(number, row)


def check_different_rows(number, rows):
    check_rows(number, rows)
    check_there(rows)


def check_there(there):
    """Rows that are there may be any ones, but none of them twice."""
    if len(set(there)) < len(there):
        raise InvalidRows(list(there))


def check_there_of(number, there):
    check_there(there)
    if not all([0 <= row < number for row in there]):
        raise InvalidRows(list(there))


def check_shown(shown, rows):
    """Rows are picked out of the shown ones, none of them twice."""
    check_there(rows)
    if not all([row in shown for row in rows]):
        raise InvalidRows(list(rows))


def check_cells(width, cells):
    if len(cells) != width:
        raise InvalidRow(len(cells))


def are_keys(sorting):
    """True if a list of tuples of two integers is a sorting of some columns."""
    columns = [column for column, sign in sorting if column >= 0 and sign in (1, -1)]
    return len(columns) == len(sorting) == len(set(columns))


def are_keys_of(width, sorting):
    return are_keys(sorting) and max([column for column, sign in sorting], default=0) < width


def check_keys(sorting):
    if not are_keys(sorting):
        raise InvalidSorting(list(sorting))


def check_sorting(width, sorting):
    if not are_keys_of(width, sorting):
        raise InvalidSorting(list(sorting))


def check_order(number, order):
    if sorted(order) != list(range(number)):
        raise InvalidOrder(list(order))


def check_filters(width, filters):
    if len(filters) != width:
        raise InvalidFilters(len(filters))


def check_folds(width, folds):
    if len(folds) != width:
        raise InvalidValue(len(folds))


def check_different_values(values):
    for at, value in enumerate(values):
        if value in values[:at]:
            raise InvalidValue(value)


def check_marks(marks):
    if any([row >= later for row, later in zip(marks, marks[1:])]):
        raise InvalidMarks(list(marks))


def check_marks_there(there, marks):
    check_marks(marks)
    if not all([row in there for row in marks]):
        raise InvalidMarks(list(marks))


def check_marks_of(number, marks):
    check_marks(marks)
    if not all([0 <= row < number for row in marks]):
        raise InvalidMarks(list(marks))


def check_words(words, deeds):
    for deed in deeds:
        if deed[0] not in words:
            raise InvalidDeed(deed)


def check_deed(deed):
    """A deed of a window has one of the words, and as many parts as this word has."""
    if not deed or PARTS.get(deed[0]) != len(deed) - 1:
        raise InvalidDeed(deed)


def check_clicks(number, clicks):
    """Clicks and range clicks on so many rows."""
    for click in clicks:
        if len(click) != 2 or click[0] not in ("click", "range"):
            raise InvalidDeed(click)
    for _, position in clicks:
        check_position(number, position)


def check_position(number, position):
    if not 0 <= position < number:
        raise InvalidPosition(position)


def check_names(names):
    for name in names:
        if not is_name(name):
            raise InvalidName(name)


def check_different_places(names):
    for at, name in enumerate(names):
        if name in names[:at]:
            raise UnknownPlace(name)


def check_trail(trail):
    """Names, none of them twice."""
    check_names(trail)
    check_different_places(trail)
