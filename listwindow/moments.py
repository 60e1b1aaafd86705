"""Moments: what a window has at a moment, and what deeds make of it.

A moment is a tuple (trail, places, page), each place a tuple (name, view, marks, anchor, scroll). It never changes, and
nothing in it is handed out but by copies."""

from listwindow.checks import check_deed, check_height, check_number
from listwindow.errors import UnknownPlace, WindowError
from listwindow.marks import marked
from listwindow.rooms import room_of, turned_by
from listwindow.views import plain_view
from listwindow.visiting import behind_visits


def check_window(height, room):
    check_height(height)
    check_number(room)


def first_moment(house):
    names = house.names
    return (names[:1], [(name, plain_view(house[name], []), [], None, 0) for name in names], 0)


def place_in(moment, name):
    _, places, _ = moment
    return [place for place in places if place[0] == name][0]


def place_here(moment):
    """The place where one is."""
    trail, _, _ = moment
    return place_in(moment, trail[-1])


def behind_deed(moment, height, room, deed):
    check_deed(deed)
    trail, places, page = moment
    if deed[0] == "visit":
        if deed[1] not in [place[0] for place in places]:
            raise UnknownPlace(deed[1])
        return (behind_visits(trail, [deed[1]]), places, page)
    name, view, marks, anchor, scroll = place_here(moment)
    if deed[0] == "turn":
        scroll, page = turned_by((room_of(len(view), height), room), (scroll, page), [deed[1]])
    elif deed[0] in ("click", "range"):
        marks, anchor = _marked_behind(view, marks, anchor, deed)
    else:
        view = view.done([deed])
        # Only a deed of the view can change its room.
        scroll = min(scroll, room_of(len(view), height))
    changed = (name, view, marks, anchor, scroll)
    return (trail, [changed if place[0] == name else place for place in places], page)


def _marked_behind(view, marks, anchor, deed):
    there = view.open_rows()
    if not 0 <= deed[1] < len(there):
        return (marks, anchor)
    return marked(there, marks, anchor, [deed])


def moments_from(moment, height, room, script):
    """The moments before and behind each deed of a script that begins at a moment."""
    moments = [moment]
    for deed in script:
        moments.append(behind_deed(moments[-1], height, room, deed))
    return moments


def moments_of(house, height, room, script):
    """The moments before and behind each deed of a script that begins at first."""
    check_window(height, room)
    return moments_from(first_moment(house), height, room, script)


def moment_behind(moment, height, room, script):
    """The moment behind a script, None if a deed of it raises an error."""
    try:
        return moments_from(moment, height, room, script)[-1]
    except WindowError:
        return None


def standing_of(moment):
    trail, places, page = moment
    return (list(trail), [_told(place) for place in places], page)


def _told(place):
    name, view, marks, anchor, scroll = place
    return (name, view.sorting, view.filters, view.folds, list(marks), anchor, scroll)
