"""Patterns: all ranks that a column can have, and small tables found in greater ones."""

from listwindow.choices import chosen
from listwindow.comparing import compared
from listwindow.errors import InvalidNumber, InvalidValue


def number_of_ranks(rows):
    if rows < 0:
        raise InvalidNumber(rows)
    return _endings(_fillings(rows), rows, [])


def nth_ranks(rows, index):
    number = number_of_ranks(rows)
    if not 0 <= index < number:
        raise InvalidNumber(index)
    fillings = _fillings(rows)
    left = index
    found = []
    while len(found) < rows:
        # The ranks are found one by one: all lists with a lesser one here come before.
        rank = 0
        endings = _endings(fillings, rows, found + [rank])
        while left >= endings:
            left -= endings
            rank += 1
            endings = _endings(fillings, rows, found + [rank])
        found.append(rank)
    return found


def ranks_index(ranks):
    if sorted(set(ranks)) != list(range(len(set(ranks)))):
        raise InvalidValue(list(ranks))
    fillings = _fillings(len(ranks))
    return sum([_endings(fillings, len(ranks), ranks[:at] + [lesser])
                for at, rank in enumerate(ranks) for lesser in range(rank)])


def _fillings(rows):
    """For as many letters, places and needed letters, each at most as many as the rows,
    the number of ways to fill the places such that each needed letter stands on one."""
    found = []
    for letters in range(rows + 1):
        counts = [[1] + [0] * letters]
        for _ in range(rows):
            last = counts[-1]
            counts.append([_with_one_place_more(last, letters, needed) for needed in range(letters + 1)])
        found.append(counts)
    return found


def _with_one_place_more(last, letters, needed):
    """On the first place stands a letter that was not needed, or one that then no longer is."""
    if needed == 0:
        return letters * last[0]
    return (letters - needed) * last[needed] + needed * last[needed - 1]


def _endings(fillings, rows, beginning):
    """The number of the ranks of so many rows with a beginning."""
    used = len(set(beginning))
    places = rows - len(beginning)
    least = max(beginning, default=-1) + 1
    return sum([fillings[letters][places][letters - used] for letters in range(least, rows + 1)])


def first_copy(table, pattern):
    copies = _copies(table, pattern)
    return copies[0] if copies else None


def count_copies(table, pattern):
    return len(_copies(table, pattern))


def _copies(table, pattern):
    if table.width != pattern.width:
        raise InvalidNumber(pattern.width)
    wanted = _comparisons(pattern)
    have = _comparisons(table)
    return [rows for rows in chosen(list(range(len(table))), len(pattern))
            if [[have[one][other] for other in rows] for one in rows] == wanted]


def _comparisons(table):
    """For each row and each other row how the cells of the one compare with those of the other."""
    rows = table.rows
    return [[[compared(cell, met) for cell, met in zip(one, other)] for other in rows] for one in rows]
