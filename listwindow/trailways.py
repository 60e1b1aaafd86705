"""Ways along trails: the fewest visits for a form or a tour, and how many ways there are."""

from math import factorial

from listwindow.checks import check_different_places, check_names, check_number, check_trail
from listwindow.trails import number_in_common
from listwindow.visiting import behind_visits, check_visit_form, leaves_of, path_from, shortest_for


def leaves(form):
    check_visit_form(form)
    return leaves_of(form)


def fewest_visits(form):
    check_visit_form(form)
    return len(shortest_for(form))


def number_of_shortest(form):
    check_visit_form(form)
    first, _ = form
    # A shortest list goes up from one leaf after the other, in any sequence, but at first from its first place.
    return factorial(len([leaf for leaf in leaves_of(form) if leaf != first]))


def visit_forms(number):
    check_number(number)
    # There are number ** (number - 1) ways to lead all places to one of them, and any one may be visited first.
    forms = 1
    for _ in range(number):
        forms *= number
    return forms


def visits_told(trail, trails):
    check_trail(trail)
    check_names([name for told in trails for name in told])
    for told in trails:
        check_different_places(told)
    visits = []
    there = trail
    for told in trails:
        # The place visited last is always at the end.
        if not told or behind_visits(there, told[-1:]) != told:
            return None
        visits.append(told[-1])
        there = told
    return visits


def visits_of_lengths(places, lengths):
    check_trail(places)
    number = 1
    trail = []
    visits = []
    for length in lengths:
        free = sorted([place for place in places if place not in trail])
        if length == len(trail) + 1 and free:
            number *= len(free)
            visits.append(free[0])
        elif 1 <= length <= len(trail):
            visits.append(trail[length - 1])
        else:
            return (0, None)
        trail = behind_visits(trail, visits[-1:])
    return (number, visits)


def number_before(form, places, goal):
    check_visit_form(form)
    check_trail(places)
    check_trail(goal)
    first, entries = form
    exits = dict(entries)
    if not entries:
        return 1 if _are_all_in(goal, places) else 0
    begins = min([at for at, place in enumerate(goal) if place in exits], default=len(goal))
    kept, ending = goal[:begins], goal[begins:]
    if not ending or ending != path_from(exits, ending[0]) or not _are_all_in(kept, places):
        return 0
    # No place of the trail before is visited, or the first one that is begins the ending: any may stand behind it.
    whole = 1 if ending[0] == first else 0
    return whole + (_number_of_rows(len(places) - begins - 1) if ending[0] in places else 0)


def _are_all_in(names, places):
    return all([name in places for name in names])


def _number_of_rows(number):
    """How many lists there are of some of so many things, each at most once, in any sequence."""
    rows = 1
    for left in range(1, number + 1):
        rows = 1 + left * rows
    return rows


def tour(trail, places, goal):
    check_trail(trail)
    check_trail(places)
    check_trail(goal)
    common = number_in_common(trail, goal)
    wanted = sorted([place for place in places if place not in trail[-1:]])
    if common == len(trail) and not [place for place in wanted if place in trail]:
        return _tour_onward(trail, wanted, goal)
    if common == 0:
        return None
    # The way back has to reach the first place that both trails or the wish have there; what else is wished stands
    # ahead of it, since all that is visited behind it stays.
    back = min([at for at in range(len(trail)) if trail[at] in wanted or at == common - 1])
    return [place for place in wanted if place not in goal[back:]] + goal[back:]


def _tour_onward(trail, wanted, goal):
    """The first of the shortest tours from a beginning of the goal, of which nothing is wished, to the goal."""
    aside = [place for place in wanted if place not in goal]
    if not aside:
        return goal[len(trail):]
    # What stands aside is visited at once, from some place on the way, which is then visited again.
    turns = list(range(max(len(trail) - 1, 0), len(goal)))
    tours = [goal[len(trail):at + 1] + aside + goal[at:] for at in turns]
    return min(tours, default=None)
