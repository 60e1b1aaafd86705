"""Effects done many times, and the marks that an effect leads to given ones."""

from math import lcm

from listwindow.checks import check_marks_of, check_number
from listwindow.effects import forgotten, then
from listwindow.repeating import doubled, many_times


def effect_times(effect, times):
    check_number(times)
    return many_times(effect, times, [(row, False) for row in range(len(effect))], then)


def comes_again(effect):
    first = 0
    period = 1
    for row in range(len(effect)):
        ahead, again = _row_comes_again(effect, row)
        first = max(first, ahead)
        period = lcm(period, again)
    return (first, period)


def _row_comes_again(effect, row):
    """The first and the period of the sources, with their turns, of one row."""
    path = []
    state = (row, False)
    while state not in path:
        path.append(state)
        source, turned = effect[state[0]]
        state = (source, turned != state[1])
    return (path.index(state), len(path) - path.index(state))


def marks_before(effect, marks):
    check_marks_of(len(effect), marks)
    asked = _asked(effect, marks)
    if _pair_in(asked) is not None:
        return None
    return sorted(set([source for source, is_marked in asked if is_marked]))


def _asked(effect, marks):
    """For each row its source and whether this has to be marked."""
    return [(source, (row in marks) != turned) for row, (source, turned) in enumerate(effect)]


def _pair_in(asked):
    """The least pair of rows that ask unlike marks of one source, None if there is none."""
    for one, (source, is_marked) in enumerate(asked):
        if (source, not is_marked) in asked[one + 1:]:
            return (one, asked.index((source, not is_marked), one + 1))
    return None


def ways_before(effect, marks):
    check_marks_of(len(effect), marks)
    if _pair_in(_asked(effect, marks)) is not None:
        return 0
    # Whether a row that is no source is marked does not matter.
    return doubled(len(forgotten(effect)))


def pair_against(effect, marks):
    check_marks_of(len(effect), marks)
    return _pair_in(_asked(effect, marks))
