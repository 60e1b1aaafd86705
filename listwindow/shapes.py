"""Shapes: what of a table's cells decides its orders."""

from listwindow.checks import check_columns
from listwindow.choices import first_choice
from listwindow.errors import InvalidNumber
from listwindow.sortings import order_of
from listwindow.tables import Table


def ranks(table, column):
    cells = table.column(column)
    rank_of = {cell: rank for rank, cell in enumerate(sorted(set(cells)))}
    return [rank_of[cell] for cell in cells]


def ranked(table):
    columns = _all_ranks(table)
    return Table(table.width, [[column[row] for column in columns] for row in range(len(table))])


def _all_ranks(table):
    return [ranks(table, column) for column in range(table.width)]


def one_shape(one, other):
    return ranked(one) == ranked(other)


def tied_rows(table, columns):
    check_columns(table.width, columns)
    tied = {}
    for row, cells in enumerate(table.rows):
        tied.setdefault(tuple([cells[column] for column in columns]), []).append(row)
    return [rows for rows in list(tied.values()) if len(rows) > 1]


def order_first_apart(one, other):
    if one.width != other.width:
        raise InvalidNumber(other.width)
    if len(one) != len(other):
        raise InvalidNumber(len(other))
    # If no sorting by one key shows unlike orders, the tables are of one shape, and none with more keys does.
    for column in range(one.width):
        for sign in (-1, 1):
            if order_of(one, [(column, sign)]) != order_of(other, [(column, sign)]):
                return [(column, sign)]
    return None


def alike_keys(table):
    columns = _all_ranks(table)
    found = []
    for column, told in enumerate(columns):
        signs = [_sign_like(told, other) for other in columns]
        keys = [(other, sign) for other, sign in enumerate(signs) if sign != 0]
        if keys[0][0] == column:
            found.append(keys)
    return found


def _sign_like(one, other):
    """1 if two columns have the same ranks, -1 if they have them the other way round, otherwise 0."""
    if one == other:
        return 1
    greatest = max(one, default=0)
    return -1 if [greatest - rank for rank in one] == other else 0


def told_columns(table, columns):
    tied = tied_rows(table, columns)
    rows = table.rows
    return [column for column in range(table.width)
            if all([rows[row][column] == rows[part[0]][column] for part in tied for row in part])]


def fewest_telling(table, columns):
    told = told_columns(table, columns)
    return first_choice(sorted(set(columns)), lambda choice: told_columns(table, choice) == told)
