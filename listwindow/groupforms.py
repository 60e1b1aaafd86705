"""The forms of deeds on groups: what they do to the folded values of all views with the same groups."""

from listwindow.checks import check_different_values, check_words
from listwindow.comparing import apart
from listwindow.errors import InvalidValue


def group_form(values, deeds):
    check_different_values(values)
    check_words(("fold", "one", "all"), deeds)
    form = (True, True, [])
    for deed in deeds:
        form = _joined(values, form, _form_of_deed(values, deed))
    return form


def _form_of_deed(values, deed):
    if deed[0] == "all":
        return (False, False, [])
    if deed[0] == "fold":
        return (True, True, [deed[1]])
    if deed[1] not in values:
        return (True, True, [])
    return (False, True, [value for value in values if value != deed[1]])


def formed_folds(values, form, folded):
    check_different_values(values)
    _check_form(values, form)
    check_different_values(folded)
    return _formed(values, form, folded)


def _formed(values, form, folded):
    kept, others, turned = form
    left = [value for value in folded if (kept if value in values else others)]
    return apart(left, turned)


def _check_form(values, form):
    kept, others, turned = form
    ascending = all([value < later for value, later in zip(turned, turned[1:])])
    are_flags = kept == others or not kept and values != []
    if not are_flags or not ascending:
        raise InvalidValue((kept, others, list(turned)))


def joined_groups(values, one, other):
    check_different_values(values)
    _check_form(values, one)
    _check_form(values, other)
    return _joined(values, one, other)


def _joined(values, one, other):
    return (one[0] and other[0], one[1] and other[1], _formed(values, other, one[2]))


def group_deeds(values, form):
    check_different_values(values)
    _check_form(values, form)
    return shortest_deeds([_deeds_by(values, form, one) for one in _ones(values, form)])


def _ones(values, form):
    """The values that the one ("one", value) of a shortest list may have, None if it needs to have none."""
    kept, others, _ = form
    if kept:
        return [None]
    # What is done ahead of ("all",) is lost, and on the groups what is done ahead of ("one", value).
    return list(values) if others else [None] + values


def _deeds_by(values, form, one):
    """The first of the shortest lists with a form in which ("one", value) has one value."""
    kept, others, turned = form
    ahead = [] if others else [("all",)]
    if one is None:
        return ahead + _folds(turned)
    # Folds of values of no group stand ahead of ("one", value), since they come first as deeds.
    strangers = [value for value in turned if value not in values]
    folded = [value for value in values if value != one]
    others_turned = [value for value in turned if value in values]
    return ahead + _folds(strangers) + [("one", one)] + _folds(apart(folded, others_turned))


def _folds(values):
    return [("fold", value) for value in values]


def shortest_deeds(several):
    """The first, as lists, of the shortest of some lists of deeds, None if there is no list."""
    return min(several, key=lambda deeds: (len(deeds), deeds), default=None)
