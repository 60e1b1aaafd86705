"""Wishes: the fewest deeds for an order, for rows that are to be shown, and for marks, behind a script."""

from listwindow.checks import check_marks_of, check_order
from listwindow.closures import changes
from listwindow.errors import InvalidMarks
from listwindow.markways import cheapest_clicks, cheapest_sorting, one_stop
from listwindow.moments import moment_behind, moments_of, place_here, place_in
from listwindow.seen import fewest_scrolls
from listwindow.sortings import clicked_on, order_of, sortings
from listwindow.sortways import first_way, nearest, sortings_showing
from listwindow.views import View


def _place_then(house, height, room, script):
    """The place where one is behind a script."""
    return place_here(moments_of(house, height, room, script)[-1])


def _view_then(house, height, room, script):
    _, view, _, _, _ = _place_then(house, height, room, script)
    return view


def fewest_for_order(house, height, room, script, order):
    view = _view_then(house, height, room, script)
    clicks = nearest(view.table, view.sorting, order)
    return None if clicks is None else _sorts(clicks)


def _sorts(clicks):
    return [("sort", column) for column in clicks]


def fewest_for_rows(house, height, room, script, rows):
    view = _view_then(house, height, room, script)
    changed = changes(view.table, view.filters, rows)
    if changed is None:
        return None
    columns, filters = changed
    return [("only", column, filters[column][0], filters[column][1]) for column in columns]


def plan(house, height, room, script, order, marks):
    _, view, held, anchor, _ = _place_then(house, height, room, script)
    table = view.table
    _check_order_or_none(table, order)
    check_marks_of(len(table), marks)
    if len(view.shown()) < len(table) or view.folds != [[] for _ in view.folds] or held or anchor is not None:
        raise InvalidMarks(list(marks))
    way = _way(table, view.sorting, order, marks)
    if way is None:
        return None
    _, heads, back = way
    stop = clicked_on(view.sorting, heads)
    return _sorts(heads) + cheapest_clicks(order_of(table, stop), marks) + _sorts(back)


def _check_order_or_none(table, order):
    if order is not None:
        check_order(len(table), order)


def _way(table, sorting, order, marks):
    """The number of the fewest clicks to an order and marks, and those on heads before and after the others."""
    if order is None:
        number, heads, _ = cheapest_sorting(table, sorting, marks)
        return (number, heads, [])
    ways = [one_stop(table, sorting, goal, marks) for goal in sortings_showing(table, order)]
    return min([way for way in ways if way is not None], default=None)


def judge_plan(house, height, room, script, order, marks, told):
    before = moments_of(house, height, room, script)[-1]
    name, view, _, _, _ = place_here(before)
    _check_order_or_none(view.table, order)
    check_marks_of(len(view.table), marks)
    behind = moment_behind(before, height, room, told)
    return len(told) if behind is not None and _fits(place_in(behind, name), order, marks) else None


def _fits(place, order, marks):
    _, view, held, _, _ = place
    return held == marks and (order is None or order_of(view.table, view.sorting) == order)


def least_marked_lines(house, height, room, script, marks):
    view = _view_then(house, height, room, script)
    table = view.table
    check_marks_of(len(table), marks)
    shown = view.shown()
    if not all([row in shown for row in marks]):
        return None
    found = []
    for sorting in sortings(table.width):
        if first_way(table.width, view.sorting, sorting) is not None:
            unfolded = View(table, sorting, view.filters, [[] for _ in range(table.width)])
            scrolls = fewest_scrolls(unfolded, height, marks)
            if scrolls is not None:
                found.append((len(scrolls), sorting))
    # Of equal numbers min takes the first, and the sortings stand by their number of keys, then as lists.
    return min(found, key=lambda pair: pair[0], default=None)
