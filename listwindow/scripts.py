"""Scripts: what they lead to, which of their deeds matter, and what they do whatever was there before."""

from listwindow.clickforms import form_of
from listwindow.effects import effect_of, then
from listwindow.moments import first_moment, moment_behind, moments_from, moments_of, place_here, place_in
from listwindow.moments import standing_of
from listwindow.rooms import effect_through, room_of


def standing_after(house, height, room, script):
    return standing_of(moments_of(house, height, room, script)[-1])


def idle(house, height, room, script):
    moments = moments_of(house, height, room, script)
    return [index for index in range(len(script)) if moments[index] == moments[index + 1]]


def needless(house, height, room, script):
    others = [script[:index] + script[index + 1:] for index in range(len(script))]
    return _leading_alike(house, height, room, script, others)


def exchangeable(house, height, room, script):
    others = [script[:index] + [script[index + 1], script[index]] + script[index + 2:]
              for index in range(len(script) - 1)]
    return _leading_alike(house, height, room, script, others)


def _leading_alike(house, height, room, script, others):
    """The indexes of those of some scripts that raise no error and lead where a script leads."""
    goal = moments_of(house, height, room, script)[-1]
    first = first_moment(house)
    return [index for index, other in enumerate(others) if moment_behind(first, height, room, other) == goal]


def first_return(house, height, room, script):
    moments = moments_of(house, height, room, script)
    for later in range(len(moments)):
        if moments[later] in moments[:later]:
            return (moments.index(moments[later]), later)
    return None


def commute(house, height, room, script, one, other):
    before = moments_of(house, height, room, script)[-1]
    behind = moments_from(before, height, room, [one, other])[-1]
    return moments_from(before, height, room, [other, one])[-1] == behind


def heads_of(house, height, room, script):
    moments = moments_of(house, height, room, script)
    clicks = {name: [] for name in house.names}
    for moment, deed in zip(moments, script):
        if deed[0] == "sort":
            clicks[place_here(moment)[0]].append(deed[1])
    return [(name, form_of(clicks[name])) for name in house.names]


def marks_through(house, height, room, script):
    moments = moments_of(house, height, room, script)
    effects = {name: effect_of(len(house[name]), [], None, []) for name in house.names}
    for moment, deed in zip(moments, script):
        name, view, _, anchor, _ = place_here(moment)
        there = view.open_rows()
        if deed[0] in ("click", "range") and 0 <= deed[1] < len(there):
            effects[name] = then(effects[name], effect_of(len(view.table), there, anchor, [deed]))
    anchors = {name: anchor for name, _, _, anchor, _ in moments[-1][1]}
    return [(name, effects[name], anchors[name]) for name in house.names]


def scroll_through(house, height, script):
    moments = moments_of(house, height, 0, script)
    return [(name, _scroll_effect(name, height, moments, script)) for name in house.names]


def _scroll_effect(name, height, moments, script):
    """What a script does to the scroll of a place, whatever it was: turns in a room that other deeds change."""
    sizes = []
    for moment in moments:
        _, view, _, _, _ = place_in(moment, name)
        sizes.append(room_of(len(view), height))
    turns = [deed[1] if deed[0] == "turn" and moment[0][-1:] == [name] else 0 for moment, deed in zip(moments, script)]
    return effect_through(sizes, turns)
