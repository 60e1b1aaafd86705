"""Barring: why no sorting shows an order."""

from listwindow.checks import check_order
from listwindow.choices import first_choice
from listwindow.comparing import compared


def usable(table, order):
    check_order(len(table), order)
    columns, _ = _choices(_steps(table, order))
    return columns


def barring(table, order):
    check_order(len(table), order)
    _, left = _choices(_steps(table, order))
    return left if _descends(order, left) else None


def judge_barring(table, order, spots):
    check_order(len(table), order)
    are_spots = all([0 <= spot < len(order) - 1 for spot in spots])
    return are_spots and _bars(_steps(table, order), order, spots)


def least_barring(table, order):
    left = barring(table, order)
    if left is None:
        return None
    steps = _steps(table, order)
    return first_choice(left, lambda choice: _bars(steps, order, choice))


def _steps(table, order):
    """For each column, and each spot, 1 if it rises there, -1 if it falls, 0 if it is tied."""
    ordered = table.picked(order)
    columns = [ordered.column(column) for column in range(table.width)]
    return [[compared(below, cell) for cell, below in zip(cells, cells[1:])] for cells in columns]


def _choices(steps):
    """The columns that can be chosen one after the other, ascending, and the spots that are then left."""
    left = list(range(len(steps[0])))
    columns = []
    going = True
    while going:
        going = False
        for column, told in enumerate(steps):
            if column not in columns and not _wavers(told, left):
                columns.append(column)
                left = [spot for spot in left if told[spot] == 0]
                # Fewer spots are left, so that a column passed over before may now be chosen.
                going = True
    return (sorted(columns), left)


def _wavers(told, spots):
    """True if a column rises at one of the spots and falls at one."""
    steps = [told[spot] for spot in spots]
    return 1 in steps and -1 in steps


def _is_tied(told, spots):
    return all([told[spot] == 0 for spot in spots])


def _descends(order, spots):
    return any([order[spot] > order[spot + 1] for spot in spots])


def _bars(steps, order, spots):
    return _descends(order, spots) and all([_is_tied(told, spots) or _wavers(told, spots) for told in steps])
