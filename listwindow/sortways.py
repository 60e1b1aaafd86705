"""Ways from one sorting to another one, and to orders that sortings show."""

from listwindow.checks import check_different_rows, check_order, check_sorting, check_width
from listwindow.sortings import order_of, sortings


def distance(width, sorting, goal):
    way = first_way(width, sorting, goal)
    return None if way is None else len(way)


def first_way(width, sorting, goal):
    check_width(width)
    check_sorting(width, sorting)
    check_sorting(width, goal)
    return _way(sorting, goal)


def _way(sorting, goal):
    # The columns that are clicked are those of the first keys of the goal; the fewest that do make the shortest way.
    for number in range(len(goal) + 1):
        columns = [column for column, sign in goal[:number]]
        if [key for key in sorting if key[0] not in columns] == goal[number:]:
            return _clicks_to(sorting, goal[:number])
    return None


def _clicks_to(sorting, keys):
    """The fewest clicks that put keys in front of a sorting that does not already have the last one in front."""
    front = [column for column, sign in sorting[:1]]
    clicks = []
    for column, sign in keys[::-1]:
        turns_round = clicks == [] and column in front
        clicks.extend([column] if sign == 1 or turns_round else [column, column])
    return clicks


def _nearest_way(sorting, goals):
    """The first, by length, then as lists, of the ways to one of some sortings, None if there is none."""
    ways = [_way(sorting, goal) for goal in goals]
    return min([way for way in ways if way is not None], key=_by_length, default=None)


def _by_length(clicks):
    return (len(clicks), clicks)


def farthest(width, sorting):
    check_width(width)
    check_sorting(width, sorting)
    ways = [(_way(sorting, goal), goal) for goal in sortings(width)]
    reached = [(len(way), goal) for way, goal in ways if way is not None]
    greatest = max([number for number, goal in reached])
    return [pair for pair in reached if pair[0] == greatest][0]


def orders(table):
    found = sorted([order_of(table, sorting) for sorting in sortings(table.width)])
    return [order for at, order in enumerate(found) if at == 0 or order != found[at - 1]]


def sortings_showing(table, order):
    check_order(len(table), order)
    return [sorting for sorting in sortings(table.width) if order_of(table, sorting) == order]


def nearest(table, sorting, order):
    check_sorting(table.width, sorting)
    return _nearest_way(sorting, sortings_showing(table, order))


def order_distance(table, order, goal):
    check_order(len(table), order)
    goals = sortings_showing(table, goal)
    best = None
    for sorting in sortings_showing(table, order):
        way = _nearest_way(sorting, goals)
        if way is not None and (best is None or len(way) < best[0]):
            best = (len(way), sorting, way)
    return best


def first_beginning(table, rows):
    check_different_rows(len(table), rows)
    for sorting in sortings(table.width):
        if order_of(table, sorting)[:len(rows)] == rows:
            return sorting
    return None
