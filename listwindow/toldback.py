"""Told back: what a view must have been from the lines that are seen of it."""

from listwindow.checks import check_height, check_number, check_sorting
from listwindow.errors import InvalidSorting
from listwindow.filters import open_filters
from listwindow.searching import first_deeds
from listwindow.seen import seen_at_most, told_scrolls
from listwindow.sortings import clicked_on, order_of, sortings
from listwindow.views import View, plain_view


def sortings_for(table, lines):
    return [sorting for sorting in sortings(table.width) if plain_view(table, sorting).lines() == lines]


def standings_for(table, height, seen):
    return [(list(sorting), scroll)
            for sorting in sortings(table.width)
            for scroll in told_scrolls(plain_view(table, sorting), height, seen)]


def folded_for(table, sorting, lines):
    if not sorting:
        raise InvalidSorting([])
    # A group has rows: it is folded if none of them stands behind its head.
    words = [line[0] for line in lines] + ["head"]
    heads = [at for at in range(len(lines)) if words[at] == "head"]
    folded = sorted(set([lines[at][1] for at in heads if words[at + 1] == "head"]))
    folds = [folded if column == sorting[0][0] else [] for column in range(table.width)]
    return folded if View(table, sorting, open_filters(table.width), folds).lines() == lines else None


def best_click(table, height, scroll, known):
    check_height(height)
    check_number(scroll)
    for sorting in known:
        check_sorting(table.width, sorting)
    if not known:
        return None
    return min(list(range(table.width)), key=lambda column: _most_alike(table, height, scroll, known, column))


def _most_alike(table, height, scroll, known, column):
    """The greatest number of sortings that show the same lines behind a click."""
    views = [plain_view(table, clicked_on(sorting, [column])) for sorting in known]
    seen = [seen_at_most(view, height, scroll) for view in views]
    return max([seen.count(lines) for lines in seen])


def clicks_to_one(table, known):
    return _first_clicks(table, known, _are_one)


def told_apart(table, known):
    clicks = _first_clicks(table, known, _are_apart)
    return None if clicks is None or len(clicks) > 4 else clicks


def _are_one(orders):
    return all([order == orders[0] for order in orders])


def _are_apart(orders):
    return all([orders.count(order) == 1 for order in orders])


def _first_clicks(table, known, fits):
    """The first, by length, then as lists, of the lists of clicks behind which the orders of sortings fit."""
    return first_deeds(
        tuple([tuple(sorting) for sorting in known]),
        lambda state: [(column, tuple([tuple(clicked_on(keys, [column])) for keys in state]))
                       for column in range(table.width)],
        lambda state: fits([order_of(table, list(keys)) for keys in state]))
