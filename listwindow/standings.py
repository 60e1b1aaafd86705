"""Standings: which of them come about, and by which scripts."""

from listwindow.checks import are_keys_of
from listwindow.moments import check_window, first_moment, moment_behind, place_here, standing_of
from listwindow.rooms import room_of


def comes_about(house, height, room, standing):
    return script_to(house, height, room, standing) is not None


def script_to(house, height, room, standing):
    check_window(height, room)
    trail, places, page = standing
    first = first_moment(house)
    if trail[:1] != house.names[:1] or not _fit(house, places):
        return None
    script = _deeds_at(places[0])
    before = moment_behind(first, height, room, script)
    if before is None:
        return None
    _, view, _, _, _ = place_here(before)
    script = script + _turns(room_of(len(view), height), places[0][-1], page) + _visits(trail, places)
    # What no script leads to, this one does not lead to either: nothing that can be reached keeps it from its end.
    behind = moment_behind(first, height, room, script)
    return script if behind is not None and standing_of(behind) == standing else None


def _fit(house, places):
    """True if places have the names of a house, sortings of its tables, and folded values for each column."""
    if [place[0] for place in places] != house.names:
        return False
    widths = [house[name].width for name in house.names]
    return all([are_keys_of(width, place[1]) and len(place[3]) == width for width, place in zip(widths, places)])


def _deeds_at(place):
    """Deeds at a place, as it is at first, that lead to all but its scroll."""
    _, sorting, filters, folds, marks, anchor, _ = place
    return _clicks(marks, anchor) + _heads(sorting, folds) + _only(filters)


def _clicks(marks, anchor):
    # All rows are open in the home order, so that each stands at the position of its number.
    if anchor is None:
        return []
    others = [row for row in marks if row != anchor]
    # The anchor is clicked last, and once before if this would mark it against the wish.
    rows = others + [anchor] if anchor in marks else [anchor] + others + [anchor]
    return [("click", row) for row in rows]


def _heads(sorting, folds):
    """Clicks on heads, and behind those on each head what is folded in its column, which is the first key then."""
    deeds = []
    for column, sign in sorting[::-1]:
        deeds.extend([("sort", column)] if sign == 1 else [("sort", column), ("sort", column)])
        deeds.extend([("fold", value) for value in folds[column]])
    return deeds


def _only(filters):
    return [("only", column, low, high)
            for column, (low, high) in enumerate(filters)
            if (low, high) != (None, None)]


def _turns(size, scroll, page):
    """Turns from the top: the page goes down only while the window stands at its end, and then this goes back."""
    turns = [size, page, scroll - size] if page != 0 else [scroll]
    return [("turn", turn) for turn in turns if turn != 0]


def _visits(trail, places):
    """Visits of all places but the first one, with what is done there: those ahead that are not in the trail."""
    ahead = [place for place in places[1:] if place[0] not in trail]
    back = [("visit", name) for name in trail[:1] if ahead]
    deeds = [deed for place in ahead for deed in _visit(place)] + back
    behind = [place for name in trail[1:] for place in places if place[0] == name]
    return deeds + [deed for place in behind for deed in _visit(place)]


def _visit(place):
    return [("visit", place[0])] + _deeds_at(place) + [("turn", place[-1])]
