"""Opening: the fewest deeds that lead to folded values, and the fewest, clicks on heads too, that leave rows open."""

from listwindow.checks import check_different_values
from listwindow.folding import fewest_folds
from listwindow.groupforms import formed_folds, group_deeds, shortest_deeds


def fewest_to_folds(view, values):
    check_different_values(values)
    if not view.sorting:
        return None if values else []
    folded = view.folds[view.sorting[0][0]]
    groups = [value for value, rows in view.groups()]
    several = [(True, True), (False, False)]
    if groups:
        several.append((False, True))
    forms = [(kept, others, _turned_for(groups, kept, others, folded, values)) for kept, others in several]
    return shortest_deeds([group_deeds(groups, form) for form in forms])


def _turned_for(groups, kept, others, folded, values):
    """What a form has to turn to lead from folded values to others."""
    left = formed_folds(groups, (kept, others, []), folded)
    return formed_folds(groups, (True, True, left), values)


def fewest_to_open(view, rows):
    # Only the last head that is clicked tells the groups, and what was done to those of others does not matter.
    ways = [[]] + [[("sort", column)] for column in range(view.table.width)]
    found = [(way, fewest_folds(view.done(way), rows)) for way in ways]
    return shortest_deeds([way + deeds for way, deeds in found if deeds is not None])
