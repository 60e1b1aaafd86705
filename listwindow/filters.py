"""Filters: which rows are shown."""

from listwindow.checks import check_column, check_columns_from_zero, check_filters, check_row, check_width


def open_filters(width):
    check_width(width)
    return [(None, None) for _ in range(width)]


def let_rows(table, filters):
    check_filters(table.width, filters)
    return [row for row, cells in enumerate(table.rows) if not _barring_columns(filters, cells)]


def _barring_columns(filters, cells):
    return [column for column, cell in enumerate(cells) if not _lets(filters[column], cell)]


def _lets(bounds, cell):
    low, high = bounds
    return (low is None or cell >= low) and (high is None or cell <= high)


def with_only(filters, deeds):
    behind = list(filters)
    for _, column, low, high in deeds:
        check_column(len(filters), column)
        behind[column] = (low, high)
    return behind


def last_only(deeds):
    check_columns_from_zero([deed[1] for deed in deeds])
    last = {deed[1]: deed for deed in deeds}
    return [last[column] for column in sorted(last)]


def barred_by(table, filters, row):
    check_filters(table.width, filters)
    check_row(len(table), row)
    return _barring_columns(filters, table.rows[row])


def met(one, other):
    check_filters(len(one), other)
    return [_both(mine, others) for mine, others in zip(one, other)]


def _both(one, other):
    """The bounds between which just the integers stand that two bounds let."""
    lows = [low for low in (one[0], other[0]) if low is not None]
    highs = [high for high in (one[1], other[1]) if high is not None]
    return (max(lows, default=None), min(highs, default=None))


def _lets_none(bounds):
    low, high = bounds
    return low is not None and high is not None and low > high


def part(table, filters):
    rows = let_rows(table, filters)
    return (table.picked(rows), rows)


def within(one, other):
    check_filters(len(one), other)
    if any([_lets_none(bounds) for bounds in one]):
        return True
    # What meets the other bounds without being narrowed stands between them.
    return met(one, other) == one


def clash(several):
    for filters in several:
        check_filters(len(several[0]), filters)
    width = len(several[0]) if several else 0
    for column in range(width):
        for one in range(len(several)):
            for other in range(one, len(several)):
                if _lets_none(_both(several[one][column], several[other][column])):
                    return (column, one, other)
    return None
