"""Standings: which of them come about, and by which scripts."""

from listwindow.budgets import cost_of, in_one_turn, in_turns, is_within
from listwindow.checks import are_keys_of
from listwindow.moments import check_window, first_moment, moment_behind, place_here, standing_of
from listwindow.reaching import cheapest_deeds
from listwindow.rooms import room_of


def comes_about(house, height, room, standing):
    return _plain_script(house, height, room, standing) is not None


def script_to(house, height, room, standing):
    script = _plain_script(house, height, room, standing)
    if script is None:
        return None
    _, _, page = standing
    # Where turns alone do not scroll the page so far, no other script is looked for.
    if is_within([], page) and not is_within(script, page):
        script = _cheapest_script(house, height, standing)
    return in_turns(script, page) if is_within(script, page) else None


def _plain_script(house, height, room, standing):
    """A script, with a down if the page is scrolled, that leads to a standing if any script does, otherwise None."""
    check_window(height, room)
    trail, places, page = standing
    first = first_moment(house)
    if not _fit(house, places):
        return None
    deeds = [_deeds_at(place) for place in places]
    before = moment_behind(first, height, room, deeds[0])
    if before is None:
        return None
    _, view, _, _, _ = place_here(before)
    turns = [_turns(room_of(len(view), height), places[0][-1], page)] + [_turn(place[-1]) for place in places[1:]]
    script = _joined(trail, house.names, [done + turned for done, turned in zip(deeds, turns)])
    # What no script leads to, this one does not lead to either: nothing that can be reached keeps it from its end.
    behind = moment_behind(first, height, room, in_one_turn(script, page))
    return script if behind is not None and standing_of(behind) == standing else None


def _fit(house, places):
    """True if places have the names of a house, sortings of its tables, and folded values for each column."""
    if [place[0] for place in places] != house.names:
        return False
    widths = [house[name].width for name in house.names]
    return all([are_keys_of(width, place[1]) and len(place[3]) == width for width, place in zip(widths, places)])


def _deeds_at(place):
    """Deeds at a place, as it is at first, that lead to all but its scroll."""
    _, sorting, filters, folds, marks, anchor, _ = place
    return _clicks(marks, anchor) + _heads(sorting, folds) + _only(filters)


def _clicks(marks, anchor):
    # All rows are open in the home order, so that each stands at the position of its number.
    if anchor is None:
        return []
    others = [row for row in marks if row != anchor]
    # The anchor is clicked last, and once before if this would mark it against the wish.
    rows = others + [anchor] if anchor in marks else [anchor] + others + [anchor]
    return [("click", row) for row in rows]


def _heads(sorting, folds):
    """Clicks on heads, and behind those on each head what is folded in its column, which is the first key then."""
    deeds = []
    for column, sign in sorting[::-1]:
        deeds.extend([("sort", column)] if sign == 1 else [("sort", column), ("sort", column)])
        deeds.extend([("fold", value) for value in folds[column]])
    return deeds


def _only(filters):
    return [("only", column, low, high)
            for column, (low, high) in enumerate(filters)
            if (low, high) != (None, None)]


def _turns(size, scroll, page):
    """Turns from the top: the page goes down only while the window stands at its end, and then this goes back."""
    return [("down", size)] + _turn(scroll - size) if page != 0 else _turn(scroll)


def _turn(number):
    return [("turn", number)] if number != 0 else []


def _joined(trail, names, lists):
    """The script that does lists of deeds at the places, one for each, and leads to a trail."""
    deeds = dict(zip(names, lists))
    # What is done at the first place is done ahead of all visits; places that are not in the trail come next.
    ahead = [name for name in names if name not in trail and deeds[name]]
    back = [("visit", name) for name in trail[:1] if ahead]
    return lists[0] + _visits(ahead, deeds) + back + _visits(trail[1:], deeds)


def _visits(places, deeds):
    return [deed for name in places for deed in [("visit", name)] + deeds.get(name, [])]


def _cheapest_script(house, height, standing):
    """The cheapest script, with a down, that leads to a standing to which some script leads."""
    trail, places, _ = standing
    ways = [cheapest_deeds(house[place[0]], height, place) for place in places]
    found = []
    for at in range(len(ways)):
        # The page is scrolled at one place in any case, and at others where this is cheaper.
        deeds = [way[1] if other == at else min(way, key=cost_of) for other, way in enumerate(ways)]
        found.append(_joined(trail, house.names, deeds))
    return min(found, key=cost_of)
