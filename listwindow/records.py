"""Records: which sortings go with what was clicked and seen."""

from listwindow.checks import check_columns, check_height, check_number
from listwindow.seen import seen_at_most
from listwindow.sortings import clicked_on, sortings
from listwindow.views import plain_view


def sortings_told(table, height, record):
    _check(table, height, record)
    return [sorting for sorting in sortings(table.width) if _number_told(table, height, sorting, record) == len(record)]


def _check(table, height, record):
    check_height(height)
    check_columns(table.width, [column for clicks, _, _ in record for column in clicks])
    for _, scroll, _ in record:
        check_number(scroll)


def _number_told(table, height, sorting, record):
    """With how many entries, from the first one on, a sorting goes."""
    keys = sorting
    for number, (clicks, scroll, lines) in enumerate(record):
        keys = clicked_on(keys, clicks)
        if seen_at_most(plain_view(table, keys), height, scroll) != lines:
            return number
    return len(record)


def first_lie(table, height, record):
    _check(table, height, record)
    farthest = max([_number_told(table, height, sorting, record) for sorting in sortings(table.width)])
    return None if farthest == len(record) else farthest
