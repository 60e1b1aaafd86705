"""Folding: the forms of folds, and the fewest deeds on groups that leave some rows open."""

from listwindow.checks import check_shown, check_words
from listwindow.choices import all_choices
from listwindow.groupforms import group_deeds, shortest_deeds


def fold_form(deeds):
    check_words(("fold", "all"), deeds)
    cleared = ("all",) in deeds
    counts = {}
    for deed in deeds:
        if deed[0] == "all":
            counts = {}
        else:
            counts[deed[1]] = counts.get(deed[1], 0) + 1
    return (cleared, sorted([value for value, count in counts.items() if count % 2 == 1]))


def folds_alike(one, other):
    return fold_form(one) == fold_form(other)


def fewest_folds(view, rows):
    shown = view.shown()
    check_shown(shown, rows)
    if not view.sorting:
        return [] if len(rows) == len(shown) else None
    groups = view.groups()
    wanted = [value for value, part in groups if not any([row in rows for row in part])]
    left = sorted([row for value, part in groups if value not in wanted for row in part])
    return _fewest_to(view, wanted) if left == sorted(rows) else None


def _fewest_to(view, wanted):
    """The first of the shortest lists of deeds after which just the groups with some values are folded."""
    values = [value for value, rows in view.groups()]
    folded = view.folds[view.sorting[0][0]]
    turned = sorted([value for value in values if (value in folded) != (value in wanted)])
    forms = [(True, True, turned), (False, False, sorted(wanted))]
    if values:
        forms.append((False, True, sorted(wanted)))
    return shortest_deeds([group_deeds(values, form) for form in forms])


def can_be_open(view, rows):
    return fewest_folds(view, rows) is not None


def open_states(view):
    states = 1
    # Each group is folded or not, whatever the others are.
    for _ in view.groups():
        states *= 2
    return states


def all_ways_to_fold(view):
    """For each list of rows that deeds on groups can leave open the rows, and the fewest deeds that do."""
    shown = view.shown()
    found = []
    for folded in all_choices([rows for value, rows in view.groups()]):
        left = [row for row in shown if not any([row in rows for rows in folded])]
        found.append((left, fewest_folds(view, left)))
    return found
