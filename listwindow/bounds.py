"""Bounds: the widest filters and the fewest bounds that show just some rows, and the rows that bring in another."""

from listwindow.checks import check_different_rows, check_row
from listwindow.choices import first_choice
from listwindow.closures import closure, tight
from listwindow.filters import let_rows


def widest(table, rows):
    wanted = sorted(rows)
    several = [[]]
    for column, bounds in enumerate(tight(table, rows)):
        several = [filters + [choice] for filters in several for choice in _beyond(table.column(column), bounds)]
    return [filters for filters in several
            if let_rows(table, filters) == wanted and not _can_be_wider(table, filters, wanted)]


def _beyond(cells, bounds):
    """Bounds around others that stop just short of a cell outside of these, or do not stop, in ascending order:
    a low None is ahead of all others, a high None behind all others."""
    low, high = bounds
    lows = [None] + sorted(set([cell + 1 for cell in cells if cell < low]))
    highs = sorted(set([cell - 1 for cell in cells if cell > high])) + [None]
    return [(least, greatest) for least in lows for greatest in highs]


def _can_be_wider(table, filters, wanted):
    return any([let_rows(table, filters[:column] + [wider] + filters[column + 1:]) == wanted
                for column, bounds in enumerate(filters) for wider in _wider_by_one(bounds)])


def _wider_by_one(bounds):
    # If wider filters show no other rows, those that are wider by one at one of the sides show none either.
    low, high = bounds
    lows = [] if low is None else [(low - 1, high)]
    return lows if high is None else lows + [(low, high + 1)]


def fewest_bounds(table, rows):
    narrowest = tight(table, rows)
    wanted = sorted(rows)
    sides = [(column, side) for column in range(table.width) for side in ("high", "low")]
    return first_choice(sides, lambda choice: let_rows(table, _only_at(narrowest, choice)) == wanted)


def _only_at(filters, sides):
    """The filters without the bounds that stand at other sides."""
    return [(low if (column, "low") in sides else None, high if (column, "high") in sides else None)
            for column, (low, high) in enumerate(filters)]


def hosts(table, rows, row):
    check_different_rows(len(table), rows)
    check_row(len(table), row)
    return first_choice(sorted(rows), lambda choice: row in closure(table, choice))
