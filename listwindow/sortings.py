"""Sortings: the keys that clicks on heads make, and the orders that they show."""

from listwindow.checks import are_keys_of, check_columns, check_keys, check_sorting, check_width
from listwindow.choices import chosen


def is_sorting(width, sorting):
    check_width(width)
    return are_keys_of(width, sorting)


def sortings(width):
    check_width(width)
    found = []
    longest = [[]]
    while longest:
        found.extend(longest)
        longest = [keys + [key] for keys in longest for key in _further_keys(width, keys)]
    return found


def _further_keys(width, keys):
    """The keys, ascending, of the columns that have none yet."""
    taken = [column for column, sign in keys]
    return [(column, sign) for column in range(width) if column not in taken for sign in (-1, 1)]


def clicked(width, sorting, clicks):
    check_width(width)
    check_sorting(width, sorting)
    check_columns(width, clicks)
    return clicked_on(sorting, clicks)


def clicked_on(sorting, clicks):
    """What clicks make of a sorting, of any columns, that was checked before."""
    keys = list(sorting)
    for column in clicks:
        keys = _behind_click(keys, column)
    return keys


def _behind_click(keys, column):
    others = [key for key in keys if key[0] != column]
    if keys and keys[0][0] == column:
        return [(column, -keys[0][1])] + others
    return [(column, 1)] + others


def order_of(table, sorting):
    check_sorting(table.width, sorting)
    rows = table.rows
    # Rows that no key tells apart stay by their numbers, since sorted is stable.
    return sorted(range(len(rows)), key=lambda row: [sign * rows[row][column] for column, sign in sorting])


def turned(sorting):
    check_keys(sorting)
    return [(column, -sign) for column, sign in sorting]


def without_ties(table, sorting):
    check_sorting(table.width, sorting)
    tied = [table.rows]
    kept = []
    for column, sign in sorting:
        parted = [part for rows in tied for part in _parted(rows, column)]
        if len(parted) > len(tied):
            kept.append((column, sign))
        tied = parted
    return kept


def _parted(rows, column):
    """The rows by their cells in a column, the equal ones together."""
    cells = [row[column] for row in rows]
    return [[row for row in rows if row[column] == cell] for cell in sorted(set(cells))]


def place_in(table, sorting, cells):
    check_sorting(table.width, sorting)
    return order_of(table.with_row(cells), sorting).index(len(table))


def pairs_apart(table, one, other):
    places = _places(order_of(table, one))
    others = _places(order_of(table, other))
    pairs = chosen(list(range(len(table))), 2)
    return [(low, high) for low, high in pairs
            if (places[low] < places[high]) != (others[low] < others[high])]


def _places(order):
    """For each row where it stands in an order."""
    pairs = sorted([(row, place) for place, row in enumerate(order)])
    return [pair[1] for pair in pairs]
