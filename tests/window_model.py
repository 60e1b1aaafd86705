"""A window as [17], [19], [20], [22] and [23] tell it, deed by deed, and what the tests of windows and scripts share."""

import heapq
import itertools
import random

from listwindow.houses import House
from listwindow.tables import Table
from tests.support import great_table, mark_all, many_filters, random_table
from tests.test_views import Model

WORDS = ["sort", "only", "fold", "one", "all", "click", "range", "turn", "visit"]


def seen_by(lines, height, scroll):
    """The lines that are seen at a scroll, as [19] tells them."""
    seen = list(lines[scroll:min(scroll + height, len(lines))])
    if seen and seen[0][0] == "row":
        heads = [line for line in lines[:scroll] if line[0] == "head"]
        if heads:
            seen[0] = heads[-1]
    return seen


def room_by(lines, height):
    return len(lines) - height if len(lines) > height else 0


def turn_by(rooms, scrolls, turn):
    """The scrolls behind one turn, as [17] tells them."""
    window, page = scrolls
    if turn > 0:
        moved = min(turn, rooms[0] - window)
        return window + moved, page + min(turn - moved, rooms[1] - page)
    moved = min(-turn, window)
    return window - moved, page - min(-turn - moved, page)


def visit_by(trail, name):
    """The trail behind a visit, as [20] tells it."""
    return trail[:trail.index(name) + 1] if name in trail else trail + [name]


class Place:
    def __init__(self, table):
        width = table.width
        self.view = Model(table, [], [(None, None)] * width, [[] for _ in range(width)])
        self.marks, self.anchor, self.scroll = [], None, 0


class WindowModel:
    def __init__(self, house, height, room):
        self.names = house.names
        self.places = {name: Place(house[name]) for name in self.names}
        self.height, self.room, self.page, self.trail = height, room, 0, self.names[:1]

    def here(self):
        return self.places[self.trail[-1]]

    def do(self, deed):
        word, *parts = deed
        here = self.here()
        if word == "visit":
            self.trail = visit_by(self.trail, parts[0])
        elif word == "turn":
            rooms = (room_by(here.view.lines(), self.height), self.room)
            here.scroll, self.page = turn_by(rooms, (here.scroll, self.page), parts[0])
        elif word in ("click", "range"):
            there = [line[1] for line in here.view.lines() if line[0] == "row"]
            if 0 <= parts[0] < len(there):
                here.marks, here.anchor = mark_all(there, here.marks, here.anchor, [deed])
        else:
            here.view.do(deed)
        here = self.here()
        here.scroll = min(here.scroll, room_by(here.view.lines(), self.height))

    def do_all(self, script):
        for deed in script:
            self.do(deed)
        return self

    def seen(self):
        return seen_by(self.here().view.lines(), self.height, self.here().scroll)

    def standing(self):
        told = []
        for name in self.names:
            place = self.places[name]
            folds = [sorted(folded) for folded in place.view.folds]
            told.append((name, list(place.view.sorting), list(place.view.filters), folds, list(place.marks),
                         place.anchor, place.scroll))
        return list(self.trail), told, self.page


def standing_by(house, height, room, script):
    return WindowModel(house, height, room).do_all(script).standing()


def example_house():
    return House([("all", Table(2, [[3, 1], [1, 2], [3, 2], [2, 1], [1, 1]])), ("few", Table(1, [[7]]))])


def random_house(chance, names=("all", "few", "none"), width=2, most=6):
    return House([(name, random_table(chance, width, chance.randrange(most + 1))) for name in names])


def great_house():
    """A house at the limits of [2]."""
    return House([(name, great_table(seed=at)) for at, name in enumerate(["all", "b", "few", "onemoreo", "z", "zzzzzzzz"])])


def random_deed(chance, house, words=None):
    """A deed for a house whose tables have the same width; positions and values that there are not among them."""
    word = chance.choice(words or WORDS)
    table = house[chance.choice(house.names)]
    cells = [cell for row in table.rows for cell in row] + [0, 1, 9]
    if word == "sort":
        return word, chance.randrange(table.width)
    if word == "only":
        low, high = chance.choice(many_filters(cells))
        return word, chance.randrange(table.width), low, high
    if word in ("fold", "one"):
        return word, chance.choice(cells)
    if word == "all":
        return (word,)
    if word in ("click", "range"):
        return word, chance.randrange(-1, 8)
    return (word, chance.randrange(-9, 10)) if word == "turn" else (word, chance.choice(house.names))


def random_script(chance, house, length, words=None):
    return [random_deed(chance, house, words) for _ in range(length)]


def some_deeds():
    """One deed of each sort, and more, for the example house."""
    return [("sort", 0), ("only", 0, 2, None), ("fold", 3), ("one", 1), ("all",), ("click", 1), ("range", 3),
            ("click", 9), ("turn", 2), ("turn", -3), ("visit", "few"), ("visit", "all")]


def small_scripts(most):
    for number in range(most + 1):
        for script in itertools.product(some_deeds(), repeat=number):
            yield list(script)


def is_possible(house, script):
    """True if no deed of a script is on a column that the table of the place does not have."""
    trail = house.names[:1]
    for deed in script:
        if deed[0] in ("sort", "only") and not 0 <= deed[1] < house[trail[-1]].width:
            return False
        if deed[0] == "visit":
            trail = visit_by(trail, deed[1])
    return True


def chances(number):
    return [random.Random(seed) for seed in range(number)]


LONGEST = 10 ** 30 - 1


def least_costs(house, height, deeds, most):
    """What it costs at least, up to so many deeds, to lead to all but the page of a standing, the page being scrolled.

    A turn that scrolls the page costs what the window takes, each other deed a longest turn: so much less than by 60
    longest turns the page can be scrolled. All deeds out of some are tried at each place, all clicks, all turns of the
    window alone, and all visits."""
    names = house.names
    places = tuple(((), ((None, None),) * house[name].width, ((),) * house[name].width, (), None, 0) for name in names)
    costs = {((names[0],), places, False): 0}
    queue, known, views = [(0, 0, ((names[0],), places, False))], {}, [{} for _ in names]
    while queue:
        cost, _, (trail, places, scrolled) = heapq.heappop(queue)
        if cost > costs[trail, places, scrolled]:
            continue
        at = names.index(trail[-1])
        if (at, places[at]) not in known:
            known[at, places[at]] = _priced_steps(house[names[at]], height, deeds, places[at], views[at])
        steps = [(added, (trail, places[:at] + (place,) + places[at + 1:], scrolled or now))
                 for added, now, place in known[at, places[at]]]
        steps += [(LONGEST, (tuple(visit_by(list(trail), name)), places, scrolled)) for name in names]
        for added, behind in steps:
            if cost + added < costs.get(behind, (most + 1) * LONGEST):
                costs[behind] = cost + added
                heapq.heappush(queue, (cost + added, len(costs), behind))
    return {state[:2]: cost for state, cost in costs.items() if state[2]}


def _priced_steps(table, height, deeds, place, views):
    """What one deed at a place can do: what it costs, whether the page is scrolled, and the place behind it."""
    view, (marks, anchor, scroll) = place[:3], place[3:]
    if view not in views:
        views[view] = _view_steps(table, height, deeds, view)
    there, room, behind = views[view]
    steps = [(room - scroll, True, place[:5] + (room,))]
    steps += [(LONGEST, False, place[:5] + (other,)) for other in range(room + 1)]
    for click in itertools.product(("click", "range"), range(len(there))):
        made, last = mark_all(there, marks, anchor, [click])
        steps.append((LONGEST, False, view + (tuple(made), last, scroll)))
    return steps + [(LONGEST, False, told + (marks, anchor, min(scroll, most))) for told, most in behind]


def _view_steps(table, height, deeds, view):
    """The open rows of a view, its room, and the views behind deeds, each with its room."""
    lines = Model(table, *view).lines()
    behind = []
    for deed in deeds:
        model = Model(table, *view)
        model.do(deed)
        folds = tuple(tuple(sorted(values)) for values in model.folds)
        behind.append(((tuple(model.sorting), tuple(model.filters), folds), room_by(model.lines(), height)))
    return [line[1] for line in lines if line[0] == "row"], room_by(lines, height), behind
