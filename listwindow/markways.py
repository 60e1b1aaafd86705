"""The fewest clicks that lead to marks."""

from listwindow.checks import check_marks, check_marks_of, check_sorting, check_there
from listwindow.covers import clicks_of_cover, cover_at
from listwindow.marks import cost
from listwindow.searching import first_deeds
from listwindow.sortings import clicked_on, order_of, sortings
from listwindow.sortways import first_way
from listwindow.sources import sources_behind


def cheapest_clicks(there, marks):
    return clicks_of_cover(there, marks, cover_at(there, marks, 0))


def fewest(there, marks, anchor, goal):
    check_there(there)
    check_marks(marks)
    check_marks(goal)
    if _elsewhere(there, marks) != _elsewhere(there, goal):
        return None
    wanted = _flags(there, goal)
    return first_deeds(
        (_flags(there, marks), anchor),
        lambda state: _clicked_states(there, state[0], state[1]),
        lambda state: state[0] == wanted)


def _elsewhere(there, marks):
    return [row for row in marks if row not in there]


def _flags(there, marks):
    """For each position whether the row there is marked, as it can be kept in a key."""
    return tuple([row in marks for row in there])


def _clicked_states(there, flags, anchor):
    """Each click, and range click, with the flags and the anchor behind it."""
    found = []
    for click in _all_clicks(len(there)):
        sources, last = sources_behind(there, anchor, [click])
        found.append((click, (tuple([flags[source] != turned for source, turned in sources]), last)))
    return found


def _all_clicks(number):
    return [(word, position) for word in ("click", "range") for position in range(number)]


def meeting_clicks(there, marks, other):
    check_there(there)
    check_marks(marks)
    check_marks(other)
    if _elsewhere(there, marks) != _elsewhere(there, other):
        return None
    alike = [position for position, row in enumerate(there) if (row in marks) == (row in other)]
    unlike = [position for position in range(len(there)) if position not in alike]
    return _clicks_to_meet(alike, unlike)


def _clicks_to_meet(alike, unlike):
    # A click leaves unlike what was; a range makes all alike if the anchor is.
    if not unlike:
        return []
    if not alike:
        return None
    if alike[0] < unlike[0]:
        return [("click", alike[0]), ("range", unlike[-1])]
    if alike[-1] > unlike[-1]:
        return [("click", unlike[-1] + 1), ("range", unlike[0])]
    return [("click", alike[0]), ("range", unlike[0]), ("range", unlike[-1])]


def cost_orders(table, marks):
    return sorted(_cost_sortings(table, marks), key=lambda pair: pair[0])


def _cost_sortings(table, marks):
    """The sortings, by their number of keys, then as lists, each behind the cost of marks in its order."""
    return [(cost(order_of(table, sorting), marks), sorting) for sorting in sortings(table.width)]


def cheapest_sorting(table, sorting, marks):
    check_sorting(table.width, sorting)
    found = []
    for number, goal in _cost_sortings(table, marks):
        way = first_way(table.width, sorting, goal)
        if way is not None:
            found.append((len(way) + number, way, goal))
    return min(found, key=lambda told: (told[0], len(told[1]), told[1]))


def one_stop(table, sorting, goal, marks):
    check_sorting(table.width, sorting)
    check_sorting(table.width, goal)
    found = []
    for number, stop in _cost_sortings(table, marks):
        heads = first_way(table.width, sorting, stop)
        back = first_way(table.width, stop, goal)
        if heads is not None and back is not None:
            found.append((len(heads) + number + len(back), heads, back))
    return min(found, key=lambda told: (told[0], len(told[1]), told[1], told[2]), default=None)


def fewest_anyhow(table, sorting, marks):
    check_sorting(table.width, sorting)
    check_marks_of(len(table), marks)
    wanted = _flags(list(range(len(table))), marks)
    unmarked = tuple([False for _ in wanted])
    return first_deeds(
        (tuple(sorting), unmarked, None),
        lambda state: _done_states(table, state),
        lambda state: state[1] == wanted)


def _done_states(table, state):
    """Each click on a row or on a head with the state behind it: the sorting, the flags by rows, the anchor."""
    sorting, flags, anchor = state
    order = order_of(table, list(sorting))
    found = []
    for click, (told, last) in _clicked_states(order, [flags[row] for row in order], anchor):
        by_row = [flag for row, flag in sorted(zip(order, told))]
        found.append((click, (sorting, tuple(by_row), last)))
    heads = [(("sort", column), tuple(clicked_on(sorting, [column]))) for column in range(table.width)]
    return found + [(deed, (behind, flags, anchor)) for deed, behind in heads]
