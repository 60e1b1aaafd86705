"""What more than one module refuses. The lists in errors are copies, so that they belong to the error alone."""

from listwindow.errors import InvalidColumn, InvalidFilters, InvalidNumber, InvalidOrder
from listwindow.errors import InvalidRow, InvalidRows, InvalidSorting, InvalidValue


def check_width(width):
    if width < 1:
        raise InvalidNumber(width)


def check_column(width, column):
    if not 0 <= column < width:
        raise InvalidColumn(column)


def check_columns(width, columns):
    for column in columns:
        check_column(width, column)


def check_columns_from_zero(columns):
    for column in columns:
        if column < 0:
            raise InvalidColumn(column)


def check_deed_columns(width, deeds):
    """The deeds of a view name a column, if they do, behind the word "sort" or "only"."""
    check_columns(width, [deed[1] for deed in deeds if deed[0] in ("sort", "only")])


def check_row(number, row):
    if not 0 <= row < number:
        raise InvalidRow(row)


def check_rows(number, rows):
    for row in rows:
        check_row(number, row)


def check_different_rows(number, rows):
    check_rows(number, rows)
    if len(set(rows)) < len(rows):
        raise InvalidRows(list(rows))


def check_cells(width, cells):
    if len(cells) != width:
        raise InvalidRow(len(cells))


def are_keys(sorting):
    """True if a list of tuples of two integers is a sorting of some columns."""
    columns = [column for column, sign in sorting if column >= 0 and sign in (1, -1)]
    return len(columns) == len(sorting) == len(set(columns))


def are_keys_of(width, sorting):
    return are_keys(sorting) and max([column for column, sign in sorting], default=0) < width


def check_keys(sorting):
    if not are_keys(sorting):
        raise InvalidSorting(list(sorting))


def check_sorting(width, sorting):
    if not are_keys_of(width, sorting):
        raise InvalidSorting(list(sorting))


def check_order(number, order):
    if sorted(order) != list(range(number)):
        raise InvalidOrder(list(order))


def check_filters(width, filters):
    if len(filters) != width:
        raise InvalidFilters(len(filters))


def check_folds(width, folds):
    if len(folds) != width:
        raise InvalidValue(len(folds))
