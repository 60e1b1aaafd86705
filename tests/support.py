"""What the tests share: tables, and models that follow the words of the document, however slowly."""

import itertools
import random

from listwindow.tables import Table


def example_table():
    return Table(2, [[3, 1], [1, 2], [3, 2], [2, 1], [1, 1]])


def empty_table(width=2):
    return Table(width, [])


def equal_table(width=2, rows=4):
    return Table(width, [[7] * width for _ in range(rows)])


def great_table(width=5, rows=40, seed=1):
    """A table at the limits of [2], with cells of 30 digits, below 0 too, and with equal cells."""
    chance = random.Random(seed)
    cells = [chance.choice([-1, 1]) * chance.randrange(10 ** 29, 10 ** 30) for _ in range(12)]
    return Table(width, [[chance.choice(cells) for _ in range(width)] for _ in range(rows)])


def random_table(chance, width, rows, kinds=3):
    return Table(width, [[chance.randrange(kinds) for _ in range(width)] for _ in range(rows)])


def small_tables(width, rows, kinds=2):
    """All tables with so many columns and rows whose cells are below a number."""
    for cells in itertools.product(range(kinds), repeat=width * rows):
        yield Table(width, [list(cells[row * width:(row + 1) * width]) for row in range(rows)])


def some_tables(width, seed=3, number=25, most=5):
    """Tables of all sizes up to one, with equal cells and rows among them."""
    chance = random.Random(seed)
    tables = [empty_table(width), equal_table(width, 1), equal_table(width, 3)]
    return tables + [random_table(chance, width, chance.randrange(1, most + 1)) for _ in range(number)]


def all_sortings(width):
    """All sortings [7], by their number of keys, then as lists."""
    found = []
    for columns in itertools.permutations(range(width)):
        for signs in itertools.product((1, -1), repeat=width):
            for number in range(width + 1):
                keys = list(zip(columns, signs))[:number]
                if keys not in found:
                    found.append(keys)
    return sorted(found, key=lambda keys: (len(keys), keys))


def by_clicks(table, order, last, clicks):
    """The order and the last click (column, sign) behind clicks as [6] tells them: stable sorts of what stands."""
    for column in clicks:
        sign = 1
        if last is not None and last[0] == column:
            sign = -last[1]
        order = sorted(order, key=lambda row: sign * table.cell(row, column))
        last = (column, sign)
    return order, last


def click(keys, column):
    """The sorting behind one click, as [7] tells it."""
    keys = list(keys)
    if keys and keys[0][0] == column:
        keys[0] = (column, -keys[0][1])
        return keys
    return [(column, 1)] + [key for key in keys if key[0] != column]


def click_all(keys, clicks):
    for column in clicks:
        keys = click(keys, column)
    return list(keys)


def order_by(table, keys):
    """The order of a sorting, as [7] tells it: each two rows compared by the first key at which they differ."""
    def before(one, other):
        for column, sign in keys:
            if table.cell(one, column) != table.cell(other, column):
                return sign * table.cell(one, column) < sign * table.cell(other, column)
        return one < other
    number = len(table)
    places = {row: sum(before(other, row) for other in range(number)) for row in range(number)}
    return sorted(range(number), key=lambda row: places[row])


def click_lists(width, most):
    """All lists of clicks up to a length, by length, then as lists."""
    for number in range(most + 1):
        for clicks in itertools.product(range(width), repeat=number):
            yield list(clicks)


def ways_from(width, start):
    """For each sorting that clicks make of one, the shortest lists of such clicks."""
    ways = {tuple(start): [[]]}
    edge = [tuple(start)]
    while edge:
        found = {}
        for keys in edge:
            for column in range(width):
                goal = tuple(click(keys, column))
                if goal not in ways:
                    found.setdefault(goal, []).extend(way + [column] for way in ways[keys])
        ways.update(found)
        edge = list(found)
    return ways


def sublists(entries):
    """All ascending lists out of some entries, by length, then as lists."""
    entries = sorted(entries)
    return [list(part) for number in range(len(entries) + 1) for part in itertools.combinations(entries, number)]


def lets(bounds, cell):
    low, high = bounds
    return not (low is not None and cell < low) and not (high is not None and cell > high)


def shown_by(table, filters):
    return [row for row in range(len(table))
            if all(lets(filters[column], table.cell(row, column)) for column in range(table.width))]


def many_filters(cells):
    """Filters of one column that part some cells in all ways that there are, those that let none too."""
    bounds = sorted(set(cells) | {min(cells, default=0) - 1, max(cells, default=0) + 1})
    return [(low, high) for low in [None] + bounds for high in [None] + bounds]


def lists_in(value, found=None):
    """All lists in a value, itself, inside other lists, tuples and dicts."""
    found = [] if found is None else found
    if isinstance(value, list):
        found.append(value)
    if isinstance(value, (list, tuple)):
        for part in value:
            lists_in(part, found)
    return found


def error_of(call, *arguments, **named):
    """The class and the value of the error that a call raises, None if it raises none."""
    from listwindow.errors import WindowError
    try:
        call(*arguments, **named)
    except WindowError as error:
        return (error.__class__, error.value)
    return None


def within_bounds(one, other):
    """True if each integer that the one bounds let, which let some, is let by the other."""
    (low, high), (least, greatest) = one, other
    return (least is None or low is not None and low >= least) and (
        greatest is None or high is not None and high <= greatest)


def all_lists(deeds, most):
    """All lists of some deeds up to a length, by length, then by the sequence of the deeds."""
    return [list(told) for number in range(most + 1) for told in itertools.product(deeds, repeat=number)]


def first_list(start, deeds, behind, is_wanted, most=99):
    """The first list of deeds, by length, then by the sequence of the deeds, that leads from a state to a wanted one:
    all lists are tried, but that of those that lead to one state only the first goes on. None if there is none."""
    known, edge = {start}, [(start, [])]
    for _ in range(most + 1):
        for state, told in edge:
            if is_wanted(state):
                return told
        further = []
        for state, told in edge:
            for deed in deeds:
                there = behind(state, deed)
                if there not in known:
                    known.add(there)
                    further.append((there, told + [deed]))
        edge = further
    return None


def mark_all(there, marks, anchor, clicks):
    """The marks and the anchor behind clicks, as [14] tells them."""
    marks = set(marks)
    for word, position in clicks:
        row = there[position]
        if word == "click" or anchor not in there:
            marks ^= {row}
            anchor = row
            continue
        here = there.index(anchor)
        for between in there[min(here, position):max(here, position) + 1]:
            marks = marks | {between} if anchor in marks else marks - {between}
    return sorted(marks), anchor


def row_clicks(number):
    """All clicks and range clicks on so many rows, ascending."""
    return [(word, position) for word in ("click", "range") for position in range(number)]


def least_cost(there, marks):
    """The fewest clicks that lead from no marks to some: all are tried."""
    goal = tuple(sorted(marks))

    def behind(state, deed):
        made, anchor = mark_all(there, state[0], state[1], [deed])
        return tuple(made), anchor
    return len(first_list(((), None), row_clicks(len(there)), behind, lambda state: state[0] == goal))


def some_clicks(chance, number, length):
    return [(chance.choice(["click", "range", "range"]), chance.randrange(number)) for _ in range(length)]


def shuffled(chance, entries):
    entries = list(entries)
    chance.shuffle(entries)
    return entries
