"""Rooms: how turns scroll a window and the page that it stands on."""

from listwindow.checks import check_height, check_number
from listwindow.errors import InvalidNumber, InvalidValue
from listwindow.repeating import many_times


def room_of(lines, height):
    check_number(lines)
    check_height(height)
    return max(lines - height, 0)


def turned_by(rooms, scrolls, turns):
    _check_rooms(rooms)
    _check_scrolls(rooms, scrolls)
    behind, _ = _turned_and_lost(rooms, scrolls, turns)
    return behind


def _check_rooms(rooms):
    for room in rooms:
        check_number(room)


def _check_scrolls(rooms, scrolls):
    for room, scroll in zip(rooms, scrolls):
        if not 0 <= scroll <= room:
            raise InvalidNumber(scroll)


def _turned_and_lost(rooms, scrolls, turns):
    """The scrolls behind turns, and what the downward and the upward ones lose."""
    window, page = scrolls
    down = 0
    up = 0
    for turn in turns:
        moved = _clipped_to(rooms[0], window + turn)
        paged = _clipped_to(rooms[1], page + window + turn - moved)
        rest = window + page + turn - moved - paged
        down += max(rest, 0)
        up += max(-rest, 0)
        window, page = moved, paged
    return ((window, page), (down, up))


def _clipped_to(room, scroll):
    return max(min(scroll, room), 0)


def lost(rooms, scrolls, turns):
    _check_rooms(rooms)
    _check_scrolls(rooms, scrolls)
    _, told = _turned_and_lost(rooms, scrolls, turns)
    return told


def clipped(rooms, scrolls):
    _check_rooms(rooms)
    return (_clipped_to(rooms[0], scrolls[0]), _clipped_to(rooms[1], scrolls[1]))


def effect_on(size, turns):
    check_number(size)
    return _effect_of([size for _ in turns], size, turns)


def _effect_of(later, size, turns):
    """The effect on a room of a size; with each turn stands the size that the room has behind it."""
    low = 0
    high = size
    room = size
    for turn, size_then in zip(turns, later):
        low = min(_clipped_to(room, low + turn), size_then)
        high = min(_clipped_to(room, high + turn), size_then)
        room = size_then
    return (_shift_told(sum(turns), low, high), low, high)


def _shift_told(shift, low, high):
    return shift if low < high else 0


def joined_effect(size, one, other):
    check_number(size)
    _check_effect(size, one)
    _check_effect(size, other)
    return _joined(one, other)


def _check_effect(size, effect):
    shift, low, high = effect
    is_effect = 0 <= low <= high <= size and (high - size <= shift <= low if low < high else shift == 0)
    if not is_effect:
        raise InvalidValue(effect)


def _joined(one, other):
    shift, low, high = one
    least, greatest = (led_to(other, low), led_to(other, high))
    return (_shift_told(shift + other[0], least, greatest), least, greatest)


def led_to(effect, scroll):
    """Where an effect leads a scroll."""
    shift, low, high = effect
    return max(low, min(high, scroll + shift))


def repeated_effect(size, effect, times):
    check_number(size)
    _check_effect(size, effect)
    check_number(times)
    return many_times(effect, times, (0, 0, size), _joined)


def effect_through(sizes, turns):
    for size in sizes:
        check_number(size)
    if len(turns) != len(sizes) - 1:
        raise InvalidNumber(len(turns))
    return _effect_of(sizes[1:], sizes[0], turns)


def turns_for(size, effect):
    check_number(size)
    _check_effect(size, effect)
    shift, low, high = effect
    if low == high:
        return _turns_to_one(size, low)
    # The sums of the first turns go down to the one end and up to the other, from 0 to the shift.
    least = shift - low
    greatest = size + shift - high
    ways = [[least, greatest, shift], [greatest, least, shift]]
    return _first_turns([_steps_along(sums) for sums in ways])


def _turns_to_one(size, scroll):
    """The turns that lead all scrolls of a room to one: from one of both ends."""
    return _first_turns([_steps_along([-size, scroll - size]), _steps_along([size, scroll])])


def _steps_along(sums):
    """The turns, none of them zero, whose sums are these, one after the other."""
    turns = [there - before for before, there in zip([0] + sums, sums)]
    return [turn for turn in turns if turn != 0]


def _first_turns(several):
    """The first list by length, then by the sum of the turns without signs, then as lists."""
    return min(several, key=lambda turns: (len(turns), sum([abs(turn) for turn in turns]), turns))


def number_of_effects(size):
    check_number(size)
    # Those that lead all to one scroll, and for each length of what is left of the room its places, ahead and behind.
    return size + 1 + size * (size + 1) * (2 * size + 1) // 6


def fewest_turns(rooms, scrolls, goal):
    _check_rooms(rooms)
    _check_scrolls(rooms, scrolls)
    _check_scrolls(rooms, goal)
    window, page = scrolls
    to_window, to_page = goal
    if page == to_page:
        turns = [to_window - window]
    elif page < to_page:
        # The page goes down only behind the window, which then stands at its end.
        turns = [rooms[0] - window + to_page - page, to_window - rooms[0]]
    else:
        turns = [to_page - page - window, to_window]
    return [turn for turn in turns if turn != 0]
