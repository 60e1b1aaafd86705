"""Trails: the places on the way, and the forms of visits."""

from listwindow.checks import check_names, check_trail
from listwindow.naming import first_free_name
from listwindow.visiting import behind_visits, check_visit_form, form_of_visits, formed_trail, path_from, shortest_for


def trail_after(trail, visits):
    check_trail(trail)
    check_names(visits)
    return behind_visits(trail, visits)


def visit_form(visits):
    check_names(visits)
    return form_of_visits(visits)


def by_form(form, trail):
    check_visit_form(form)
    check_trail(trail)
    return formed_trail(form, trail)


def visits_alike(one, other):
    return visit_form(one) == visit_form(other)


def trail_apart(one, other):
    mine = visit_form(one)
    others = visit_form(other)
    if mine == others:
        return None
    visited = sorted(set(one + other))
    places = sorted(visited + [first_free_name(visited)])
    # Two places are enough: behind one that only the one visits, a further one is lost to it and kept by the other.
    pairs = [[place, behind] for place in places for behind in places if place != behind]
    trails = [[]] + [[place] for place in places] + pairs
    return [trail for trail in trails if formed_trail(mine, trail) != formed_trail(others, trail)][0]


def shortest_visits(form):
    check_visit_form(form)
    return shortest_for(form)


def visits_between(trail, goal):
    check_trail(trail)
    check_trail(goal)
    common = number_in_common(trail, goal)
    if common == len(trail):
        return goal[common:]
    return None if common == 0 else goal[common - 1:]


def number_in_common(trail, goal):
    """How many places two trails have in common, from the first one on."""
    unlike = [at for at, (place, other) in enumerate(zip(trail, goal)) if place != other]
    return min(unlike, default=min(len(trail), len(goal)))


def joined_visits(one, other):
    check_visit_form(one)
    check_visit_form(other)
    return form_of_visits(shortest_for(one) + shortest_for(other))


def kept_trails(form):
    check_visit_form(form)
    _, entries = form
    exits = dict(entries)
    trails = [path_from(exits, place) for place in sorted(exits)]
    return sorted(trails, key=lambda trail: (len(trail), trail)) if trails else [[]]


def ways_home(trail, visits):
    check_trail(trail)
    check_names(visits)
    lengths = [len(behind_visits(trail, visits[:number])) for number in range(len(visits) + 1)]
    return len([length for length, behind in zip(lengths, lengths[1:]) if behind < length])
