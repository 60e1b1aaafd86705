"""Closures: which rows filters can show alone, and which columns are enough for it."""

from listwindow.checks import check_different_rows, check_filters
from listwindow.choices import all_choices, first_choice
from listwindow.errors import InvalidRows
from listwindow.filters import let_rows, open_filters


def tight(table, rows):
    check_different_rows(len(table), rows)
    if not rows:
        raise InvalidRows([])
    return _narrowest(table, rows)


def _narrowest(table, rows):
    """The tight filters of rows; of no rows (1, 0) in each column, which lets none."""
    picked = table.picked(rows)
    columns = [picked.column(column) for column in range(table.width)]
    return [(min(cells, default=1), max(cells, default=0)) for cells in columns]


def closure(table, rows):
    check_different_rows(len(table), rows)
    return let_rows(table, _narrowest(table, rows))


def can_be_shown(table, rows):
    return closure(table, rows) == sorted(rows)


def first_guest(table, rows):
    guests = [row for row in closure(table, rows) if row not in rows]
    return guests[0] if guests else None


def fewest_columns(table, rows):
    changed = changes(table, open_filters(table.width), rows)
    return None if changed is None else changed[0]


def changes(table, filters, rows):
    check_filters(table.width, filters)
    check_different_rows(len(table), rows)
    # If any filters at some columns show just these rows, the narrowest that let them do.
    narrowest = _narrowest(table, rows)
    wanted = sorted(rows)
    columns = first_choice(
        list(range(table.width)),
        lambda choice: let_rows(table, _changed(filters, narrowest, choice)) == wanted)
    return None if columns is None else (columns, _changed(filters, narrowest, columns))


def _changed(filters, others, columns):
    """The filters, but with the other ones at some columns."""
    return [others[column] if column in columns else bounds for column, bounds in enumerate(filters)]


def closed_sets(table):
    return [rows for rows in all_choices(list(range(len(table)))) if closure(table, rows) == rows]


def least_rows(table, rows):
    wanted = closure(table, rows)
    return first_choice(sorted(rows), lambda choice: closure(table, choice) == wanted)
