"""The forms of turns: what they do to all rooms."""

from listwindow.checks import check_number
from listwindow.rooms import effect_on, led_to


def short_form(turns):
    form = _summed(turns)
    going = True
    while going:
        shorter = _shorter(form)
        going = len(shorter) < len(form)
        form = shorter
    return form


def _summed(turns):
    """The turns without zeros, neighbours with one sign summed up."""
    found = []
    for turn in turns:
        if found and found[-1] * turn > 0:
            found[-1] += turn
        elif turn != 0:
            found.append(turn)
    return found


def _shorter(form):
    """The form with some of its turns joined, or as it was if none can be."""
    sizes = [abs(turn) for turn in form]
    for at in range(1, len(form) - 1):
        if sizes[at] <= min(sizes[at - 1], sizes[at + 1]):
            return form[:at - 1] + [sum(form[at - 1:at + 2])] + form[at + 2:]
    if len(form) > 2 and sizes[0] < sizes[1] <= sizes[2]:
        return [form[0] + form[1]] + form[2:]
    return form


def is_short(turns):
    return short_form(turns) == turns


def turns_alike(one, other):
    return short_form(one) == short_form(other)


def room_apart(one, other):
    mine = short_form(one)
    others = short_form(other)
    # In a room that grows, what a short form does changes its course only where the room is as great as a turn.
    sizes = [1] + [abs(turn) + 1 for turn in mine + others]
    for size in sorted(sizes):
        scroll = _first_apart(effect_on(size, mine), effect_on(size, others))
        if scroll is not None:
            return (size, scroll)
    return None


def _first_apart(one, other):
    """The least scroll that two effects lead to unlike ones, in the least room in which they differ, None if none."""
    if one == other:
        return None
    if one[1] != other[1]:
        return 0
    # Both keep the least scrolls at one place. If they part later than where one of them leads the next scroll on,
    # they part in a lesser room, too: where one of them leads all scrolls to one place, and the other does not.
    (shift, low, _), (shifted, _, _) = one, other
    scrolls = [low - shift + 1, low - shifted + 1]
    return min([scroll for scroll in scrolls if led_to(one, scroll) != led_to(other, scroll)])


def swing(turns):
    least = 0
    greatest = 0
    reached = 0
    for turn in turns:
        reached += turn
        least = min(least, reached)
        greatest = max(greatest, reached)
    return (least, greatest)


def rooms_for(turns, scroll):
    check_number(scroll)
    form = short_form(turns)
    # In all rooms that are greater than the greatest turn, 0 is led to the same scroll.
    enough = max([abs(turn) for turn in form], default=0)
    farthest = _scroll_of_zero(enough, form)
    if scroll > farthest:
        return None
    least = _least_room(form, scroll, enough)
    return (least, None if scroll == farthest else _least_room(form, scroll + 1, enough) - 1)


def _scroll_of_zero(size, turns):
    return effect_on(size, turns)[1]


def _least_room(turns, scroll, enough):
    """The least room in which 0 is led to a scroll or farther; in greater rooms it is never led less far."""
    low = 0
    high = enough
    while low < high:
        middle = (low + high) // 2
        if _scroll_of_zero(middle, turns) < scroll:
            low = middle + 1
        else:
            high = middle
    return low
