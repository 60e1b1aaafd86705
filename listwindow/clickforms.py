"""The forms of clicks on heads: what clicks do to all sortings, of any columns."""

from listwindow.checks import are_keys, check_columns, check_columns_from_zero, check_keys
from listwindow.checks import check_sorting, check_width
from listwindow.errors import InvalidNumber, InvalidSorting
from listwindow.sortings import clicked_on, sortings


def form_of(clicks):
    check_columns_from_zero(clicks)
    return (clicked_on([], clicks), _is_bound(clicks))


def _is_bound(clicks):
    if not clicks:
        return False
    others = [at for at, column in enumerate(clicks) if column != clicks[0]]
    return not others or clicks[0] not in clicks[others[0]:]


def is_form(form):
    keys, bound = form
    if not are_keys(keys):
        return False
    # From two keys on, the column clicked first may have been clicked again behind another one, or not.
    return len(keys) > 1 or bound == (len(keys) == 1)


def _check_form(form):
    if not is_form(form):
        keys, bound = form
        raise InvalidSorting((list(keys), bound))


def formed(form, sorting):
    _check_form(form)
    check_keys(sorting)
    return _formed(form, sorting)


def _formed(form, sorting):
    keys, bound = form
    made = list(keys)
    # The first click of a bound form may find its column sorted last, ascending: it turns it round at once.
    if bound and sorting[:1] == [(keys[-1][0], 1)]:
        made[-1] = (keys[-1][0], -keys[-1][1])
    columns = [column for column, sign in keys]
    return made + [key for key in sorting if key[0] not in columns]


def joined(one, other):
    _check_form(one)
    _check_form(other)
    return form_of(_shortest(one) + _shortest(other))


def clicks_for(form):
    _check_form(form)
    return _shortest(form)


def _shortest(form):
    keys, bound = form
    clicks = []
    for column, sign in keys[::-1]:
        clicks.extend([column] if sign == 1 else [column, column])
    if keys and not bound:
        # One more click, ahead of all others, on a column that is clicked again behind another one.
        clicks = [min([column for column, sign in keys[:-1]])] + clicks
    return clicks


def alike(one, other):
    return form_of(one) == form_of(other)


def first_apart(one, other):
    keys, bound = form_of(one)
    others, other_bound = form_of(other)
    if keys != others:
        return []
    # A bound form parts from one that is not where its last key's column is sorted last, ascending.
    return None if bound == other_bound else [(keys[-1][0], 1)]


def number_of_forms(width):
    check_width(width)
    counts = _counts(width)
    # Each sorting by two keys or more has a bound form and another one, each other sorting one form.
    return 2 * sum(counts) - counts[0] - counts[1]


def _counts(width):
    """The numbers of the sortings of so many columns by 0, 1, 2 and so on keys."""
    counts = [1]
    for taken in range(width):
        counts.append(counts[-1] * 2 * (width - taken))
    return counts


def repeated(form, times):
    _check_form(form)
    if times < 0:
        raise InvalidNumber(times)
    # From two times on, two times more do the same.
    few = times if times < 2 else 2 + times % 2
    return form_of(_shortest(form) * few)


def number_made(width, form):
    check_width(width)
    _check_form(form)
    keys, bound = form
    check_columns(width, [column for column, sign in keys])
    # What is made tells the keys that are not clicked, and of a bound form both signs of its last key.
    behind = sum(_counts(width - len(keys)))
    return 2 * behind if bound else behind


def forms_between(width, sorting, goal):
    check_width(width)
    check_sorting(width, sorting)
    check_sorting(width, goal)
    forms = [(list(keys), bound) for keys in sortings(width) for bound in (False, True)]
    found = [(_shortest(form), form) for form in forms if is_form(form) and _formed(form, sorting) == goal]
    return [form for _, form in sorted(found, key=lambda pair: (len(pair[0]), pair[0]))]
