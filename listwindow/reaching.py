"""Reaching: the cheapest deeds, as budgets tells them, that make of a place what it is to become.

A state is a tuple of three numbers: that of a view, that of what is marked, and the scroll, -1 as long as the page was
not scrolled there: the scroll is 0 then. Where all is done it is (-1, -1, 1) if the page was scrolled, otherwise
(-1, -1, 0)."""

from heapq import heappop, heappush

from listwindow.budgets import LONGEST
from listwindow.markgoals import MarkGoal
from listwindow.viewgoals import ViewGoal


def cheapest_deeds(table, height, place):
    """The cheapest deeds that lead from the first standing to a place without scrolling the page, and those with it."""
    _, sorting, filters, folds, marks, anchor, scroll = place
    views = ViewGoal(table, height, sorting, filters, folds)
    ways = _cheapest_ways(views, MarkGoal(len(table), marks, anchor), scroll)
    return [views.with_strangers(ways[scrolled]) for scrolled in (0, 1)]


def _cheapest_ways(views, marks, scroll):
    start = (views.first, marks.first, -1)
    costs = {start: 0}
    steps = {}
    ways = {}
    queue = [(0, 0, start)]
    while len(ways) < 2:
        # Of equal sums the one that costs more already comes first, since less is left to do.
        _, spent, state = heappop(queue)
        if state[0] == -1:
            ways[state[2]] = _way_to(state, steps)
        elif costs[state] == -spent:
            for added, deeds, behind in _further(views, marks, scroll, state):
                cost = costs[state] + added
                if behind not in costs or cost < costs[behind]:
                    costs[behind] = cost
                    steps[behind] = (state, deeds)
                    heappush(queue, (cost + LONGEST * _needed(views, marks, behind), -cost, behind))
    return ways


def _needed(views, marks, state):
    view, marking, _ = state
    return 0 if view == -1 else views.needed(view) + marks.needed(marking)


def _way_to(state, steps):
    there = state
    way = []
    while there in steps:
        there, deeds = steps[there]
        way = deeds + way
    return way


def _further(views, marks, scroll, state):
    """What can be done next in a state: tuples of what it costs, the deeds, and the state behind them."""
    view, marking, there = state
    rows = views.open_rows_of(view)
    changed = [([deed], (behind, marking, min(there, views.room_at(behind)))) for deed, behind in views.steps(view)]
    clicked = [([click], (view, behind, there)) for click, behind in marks.clicks(rows, marking)]
    steps = [(LONGEST, deeds, behind) for deeds, behind in changed + clicked]
    if there == -1:
        # One moment is enough for all turns that scroll the page.
        room = views.room_at(view)
        steps.append((room, [("down", room)], (view, marking, room)))
    if (view, marking) == (views.wanted, marks.wanted):
        steps.append(_ending(scroll, there))
    return steps


def _ending(scroll, there):
    # One turn of the window alone is enough for a wrong scroll, and can be done behind all else.
    rest = scroll - max(there, 0)
    deeds = [("turn", rest)] if rest != 0 else []
    return (LONGEST * len(deeds), deeds, (-1, -1, 0 if there == -1 else 1))
