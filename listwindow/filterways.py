"""Ways by filters and folds: to marks that cost less, and from positions and open rows to filters that show them."""

from listwindow.checks import check_marks_of, check_marks_there, check_position, check_sorting
from listwindow.choices import all_choices
from listwindow.closures import closure, tight
from listwindow.errors import InvalidPosition, InvalidSorting
from listwindow.filters import let_rows, open_filters
from listwindow.folding import all_ways_to_fold
from listwindow.marks import cost
from listwindow.markways import cheapest_clicks
from listwindow.sortings import order_of


def cheapest_filters(table, sorting, marks):
    order = order_of(table, sorting)
    check_marks_of(len(table), marks)
    if not marks:
        return (0, [], [])
    narrowest = tight(table, marks)
    found = []
    for columns in all_choices(list(range(table.width))):
        let = let_rows(table, _only_at(narrowest, columns))
        clicks = cheapest_clicks([row for row in order if row in let], marks)
        found.append((len(columns) + len(clicks), columns, clicks))
    # Of equally cheap ones min takes the first, and all choices stand by length, then as lists.
    return min(found, key=lambda told: told[0])


def _only_at(filters, columns):
    """The filters, but open at other columns."""
    return [bounds if column in columns else (None, None) for column, bounds in enumerate(filters)]


def by_filters(view):
    rows = view.open_rows()
    if not rows:
        return [(1, 0) for _ in range(view.table.width)]
    return tight(view.table, rows) if closure(view.table, rows) == sorted(rows) else None


def stretch_of(table, sorting, filters):
    order = order_of(table, sorting)
    let = let_rows(table, filters)
    places = [position for position, row in enumerate(order) if row in let]
    if not places or places[-1] - places[0] + 1 != len(places):
        return None
    return (places[0], places[-1])


def filter_for(table, sorting, first, last):
    check_sorting(table.width, sorting)
    if not sorting:
        raise InvalidSorting([])
    check_position(len(table), first)
    check_position(len(table), last)
    if last < first:
        raise InvalidPosition(last)
    rows = sorted(order_of(table, sorting)[first:last + 1])
    filters = open_filters(table.width)
    column = sorting[0][0]
    filters[column] = tight(table, rows)[column]
    return filters if let_rows(table, filters) == rows else None


def folds_for_marks(view, marks):
    check_marks_there(view.shown(), marks)
    found = [(len(deeds) + cost(left, marks), deeds)
             for left, deeds in all_ways_to_fold(view)
             if all([row in left for row in marks])]
    return min(found, key=lambda told: (told[0], len(told[1]), told[1]))
