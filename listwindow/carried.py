"""Carrying over: deeds on a table told as deeds on another table of one shape."""

from listwindow.checks import check_column, check_deed_columns, check_filters, check_folds, check_sorting
from listwindow.shapes import one_shape
from listwindow.sortings import clicked_on


def cell_on(one, other, column, value):
    check_column(one.width, column)
    if not one_shape(one, other):
        return None
    return _cell_for(one, other, column, value)


def _cell_for(one, other, column, value):
    cells = one.column(column)
    return other.cell(cells.index(value), column) if value in cells else None


def filters_on(one, other, filters):
    check_filters(one.width, filters)
    if not one_shape(one, other):
        return None
    return [_bounds_for(one, other, column, low, high) for column, (low, high) in enumerate(filters)]


def _bounds_for(one, other, column, low, high):
    pairs = list(zip(one.column(column), other.column(column)))
    return (_low_for(pairs, low), _high_for(pairs, high))


def _low_for(pairs, low):
    if low is None:
        return None
    if not pairs:
        return 0
    beyond = max([cell for _, cell in pairs]) + 1
    return min([cell for told, cell in pairs if told >= low], default=beyond)


def _high_for(pairs, high):
    if high is None:
        return None
    if not pairs:
        return 0
    beyond = min([cell for _, cell in pairs]) - 1
    return max([cell for told, cell in pairs if told <= high], default=beyond)


def folds_on(one, other, folds):
    check_folds(one.width, folds)
    if not one_shape(one, other):
        return None
    return [_folded_for(one, other, column, folded) for column, folded in enumerate(folds)]


def _folded_for(one, other, column, folded):
    pairs = list(zip(one.column(column), other.column(column)))
    return sorted(set([cell for told, cell in pairs if told in folded]))


def deeds_on(one, other, sorting, deeds):
    check_sorting(one.width, sorting)
    check_deed_columns(one.width, deeds)
    if not one_shape(one, other):
        return None
    keys = list(sorting)
    found = []
    for deed in deeds:
        found.extend(_deeds_for(one, other, keys, deed))
        if deed[0] == "sort":
            keys = clicked_on(keys, [deed[1]])
    return found


def _deeds_for(one, other, keys, deed):
    """The deed that does on the other table what a deed does on the one, or none if it does nothing there."""
    if deed[0] == "only":
        _, column, low, high = deed
        return [("only", column) + _bounds_for(one, other, column, low, high)]
    if deed[0] not in ("fold", "one"):
        return [deed]
    cell = _cell_for(one, other, keys[0][0], deed[1]) if keys else None
    return [] if cell is None else [(deed[0], cell)]
