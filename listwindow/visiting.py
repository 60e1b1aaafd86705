"""Visiting: what visits and their forms do to trails. Names, trails and forms were checked before."""

from listwindow.checks import check_names
from listwindow.errors import InvalidValue


def behind_visits(trail, visits):
    there = list(trail)
    for place in visits:
        there = there[:there.index(place) + 1] if place in there else there + [place]
    return there


def form_of_visits(visits):
    if not visits:
        return (None, [])
    # What is visited next behind the last visit of a place comes last; behind the last one nothing does.
    exits = dict(zip(visits, visits[1:] + visits[-1:]))
    return (visits[0], [(place, exits[place]) for place in sorted(exits)])


def check_visit_form(form):
    first, entries = form
    check_names([] if first is None else [first])
    check_names([name for entry in entries for name in entry])
    if not is_visit_form(form):
        raise InvalidValue((first, list(entries)))


def is_visit_form(form):
    first, entries = form
    if first is None:
        return not entries
    exits = dict(entries)
    places = [place for place, onward in entries]
    known = first in exits and all([onward in exits for place, onward in entries])
    return places == sorted(exits) and known and _all_lead_to_one(exits)


def _all_lead_to_one(exits):
    """True if from each place the exits lead on to the one place that is its own exit."""
    lasts = [place for place in sorted(exits) if exits[place] == place]
    return len(lasts) == 1 and all([path_from(exits, place)[-1] == lasts[0] for place in sorted(exits)])


def path_from(exits, place):
    """The places from one on along the exits, none of them twice."""
    path = []
    there = place
    while there not in path:
        path.append(there)
        there = exits[there]
    return path


def formed_trail(form, trail):
    first, entries = form
    exits = dict(entries)
    visited = [place for place in trail if place in exits]
    if visited:
        return trail[:trail.index(visited[0])] + path_from(exits, visited[0])
    return trail + ([] if first is None else path_from(exits, first))


def leaves_of(form):
    """The places, ascending, that are not the exit of another one."""
    _, entries = form
    return [place for place, _ in entries if not any([place == onward != other for other, onward in entries])]


def shortest_for(form):
    """The first, as lists, of the shortest lists of visits with a form."""
    first, entries = form
    exits = dict(entries)
    leaves = leaves_of(form)
    visits = [] if first in leaves or first is None else [first]
    left = [place for place, _ in entries]
    for leaf in sorted(leaves, key=lambda place: (place != first, place)):
        there = leaf
        # On along the exits, as long as each place is visited for the last time.
        while there in left and not [place for place in left if exits[place] == there != place]:
            visits.append(there)
            left.remove(there)
            there = exits[there]
        if left:
            visits.append(there)
    return visits
