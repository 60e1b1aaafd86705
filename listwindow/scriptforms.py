"""The forms of scripts of sorting, filtering and visiting: what they do to all windows."""

from listwindow.checks import check_columns_from_zero, check_deed, check_different_places, check_names, check_number
from listwindow.checks import check_words
from listwindow.clickforms import clicks_for, first_apart, form_of, formed, is_form
from listwindow.errors import InvalidValue, UnknownPlace
from listwindow.filters import last_only, with_only
from listwindow.naming import is_name
from listwindow.trails import trail_apart
from listwindow.visiting import form_of_visits, formed_trail, is_visit_form, shortest_for


def script_form(script):
    _check_script(script)
    return _form_of(script)


def _check_script(script):
    for deed in script:
        check_deed(deed)
        check_words(("sort", "only", "visit"), [deed])
    check_columns_from_zero([deed[1] for deed in script if deed[0] != "visit"])
    check_names(_visits(script))


def _visits(script):
    return [deed[1] for deed in script if deed[0] == "visit"]


def _form_of(script):
    done = _done_by_place(script)
    forms = [(place, form_of(_clicks(done[place])), last_only(_only(done[place]))) for place in _in_order(done)]
    return (forms, form_of_visits(_visits(script)))


def _done_by_place(script):
    """For each place, None for the one where the script begins, what is done there, if anything is."""
    place = None
    done = {}
    for deed in script:
        if deed[0] == "visit":
            place = deed[1]
        else:
            done.setdefault(place, []).append(deed)
    return done


def _in_order(done):
    """The places where something is done, None ahead of the names."""
    return [place for place in done if place is None] + sorted([place for place in done if place is not None])


def _clicks(deeds):
    return [deed[1] for deed in deeds if deed[0] == "sort"]


def _only(deeds):
    return [deed for deed in deeds if deed[0] == "only"]


def scripts_alike(one, other):
    return script_form(one) == script_form(other)


def script_for(form):
    _check_form(form)
    return _script_for(form)


def _check_form(form):
    forms, (first, entries) = form
    if not _is_form_of_script(form):
        told = [(place, (list(clicks[0]), clicks[1]), list(only)) for place, clicks, only in forms]
        raise InvalidValue((told, (first, list(entries))))


def _is_form_of_script(form):
    forms, visits = form
    first, entries = visits
    names = [name for entry in entries for name in entry] + [place for place in (first,) if place is not None]
    if not all([is_name(name) for name in names]) or not is_visit_form(visits):
        return False
    visited = [place for place, _ in entries]
    # What is done ahead of the first visit stands ahead of all places, and these stand in their order.
    places = [place for place, _, _ in forms]
    named = places[1:] if places[:1] == [None] else places
    if named != [place for place in visited if place in named]:
        return False
    return all([is_form(clicks) and _are_last_only(only) and (clicks[0] or only) for _, clicks, only in forms])


def _are_last_only(only):
    """True if there is one deed of a filter for each of some columns, these ascending."""
    if not all([len(deed) == 4 and deed[0] == "only" and deed[1] >= 0 for deed in only]):
        return False
    return last_only(only) == only


def _script_for(form):
    forms, visits = form
    deeds = {place: _deeds_for(clicks, only) for place, clicks, only in forms}
    script = list(deeds.get(None, []))
    visited = []
    for place in shortest_for(visits):
        script.append(("visit", place))
        if place not in visited:
            script.extend(deeds.get(place, []))
        visited.append(place)
    return script


def _deeds_for(clicks, only):
    return [("sort", column) for column in clicks_for(clicks)] + only


def joined_scripts(one, other):
    _check_form(one)
    _check_form(other)
    return _form_of(_script_for(one) + _script_for(other))


def repeated_script(form, times):
    _check_form(form)
    check_number(times)
    # Behind the first time all that is done at a place is repeated as a whole: from then on as clicks are.
    few = times if times < 3 else 4 - times % 2
    return _form_of(_script_for(form) * few)


def by_script(form, trail, places):
    _check_form(form)
    forms, visits = form
    names = [name for name, _, _ in places]
    check_different_places(trail)
    check_different_places(names)
    for name in trail + [place for place, _ in visits[1]]:
        if name not in names:
            raise UnknownPlace(name)
    behind = []
    for name, sorting, filters in places:
        # What is done ahead of the first visit is done at the end of the trail.
        told = [(clicks, only) for place, clicks, only in forms if place == name or place is None and name == trail[-1]]
        keys, bounds = _behind_forms(told, sorting, filters)
        behind.append((name, keys, bounds))
    return (formed_trail(visits, trail), behind)


def _behind_forms(told, sorting, filters):
    keys, bounds = list(sorting), list(filters)
    for clicks, only in told:
        keys, bounds = formed(clicks, keys), with_only(bounds, only)
    return (keys, bounds)


def scripts_apart(one, other):
    _check_script(one)
    _check_script(other)
    mine, others = _done_by_place(one), _done_by_place(other)
    for place in _in_order({**mine, **others}):
        told = _apart_at(place, mine.get(place, []), others.get(place, []))
        if told is not None:
            return told
    trail = trail_apart(_visits(one), _visits(other))
    return None if trail is None else ("visit", trail)


def _apart_at(place, deeds, others):
    """The first sorting, or else the first column, for which two lists of deeds at a place differ, None if none."""
    sorting = first_apart(_clicks(deeds), _clicks(others))
    if sorting is not None:
        return ("sort", place, sorting)
    mine, told = last_only(_only(deeds)), last_only(_only(others))
    columns = [deed[1] for deed in mine if deed not in told] + [deed[1] for deed in told if deed not in mine]
    return ("only", place, min(columns)) if columns else None
