"""View goals: the deeds that can help to make a view what it is to become, and how many are needed at least.

A view is a tuple of its sorting, its filters and its folds, and is known by its number. Folded values that are no
cells, the strangers, change no lines: they are left out, and folded at last."""

from listwindow.filters import let_rows, open_filters, with_only
from listwindow.foldgoals import FoldGoal
from listwindow.numbering import Numbers
from listwindow.rooms import room_of
from listwindow.searching import first_deeds
from listwindow.sortings import clicked_on
from listwindow.views import View


class ViewGoal:
    def __init__(self, table, height, sorting, filters, folds):
        self._table = table
        self._height = height
        self._columns = list(range(table.width))
        self._cells = [sorted(set(table.column(column))) for column in self._columns]
        self._strangers = [_others(folds[column], self._cells[column]) for column in self._columns]
        known = [tuple(_others(folds[column], self._strangers[column])) for column in self._columns]
        self._sorting = tuple(sorting)
        self._filters = tuple(filters)
        self._folds = [FoldGoal(self._cells[column], known[column]) for column in self._columns]
        self._bounds = [_useful_bounds(table, column, filters[column]) for column in self._columns]
        self._all_groups = [self._groups_by(column, _combined(self._bounds)) for column in self._columns]
        self._numbers = Numbers()
        self._lines = {}
        self._steps = {}
        self._heads = {}
        self._needed = {}
        unfolded = tuple([() for _ in self._columns])
        self.first = self._numbers.number_of(((), tuple(open_filters(table.width)), unfolded))
        self.wanted = self._numbers.number_of((self._sorting, self._filters, tuple(known)))

    def with_strangers(self, deeds):
        """The deeds with folds of the strangers."""
        told = deeds
        for column, values in enumerate(self._strangers):
            if values:
                told = _folded_late(told, column, values)
        return told

    def lines_of(self, view):
        if view not in self._lines:
            sorting, filters, folds = self._numbers.key_of(view)
            told = View(self._table, list(sorting), list(filters), [list(folded) for folded in folds])
            self._lines[view] = told.lines()
        return self._lines[view]

    def open_rows_of(self, view):
        return tuple([line[1] for line in self.lines_of(view) if line[0] == "row"])

    def room_at(self, view):
        return room_of(len(self.lines_of(view)), self._height)

    def steps(self, view):
        """The deeds behind which a view differs and can still become the wanted one, each with the view behind it."""
        if view not in self._steps:
            key = self._numbers.key_of(view)
            found = self._sorts(key) + self._onlys(key) + self._foldings(key, self.lines_of(view))
            steps = [(deed, self._numbers.number_of(behind)) for deed, behind in found]
            self._steps[view] = [(deed, behind) for deed, behind in steps
                                 if behind != view and self.needed(behind) is not None]
        return self._steps[view]

    def _sorts(self, key):
        sorting, filters, folds = key
        clicks = [(column, tuple(clicked_on(list(sorting), [column]))) for column in self._columns]
        return [(("sort", column), (behind, filters, folds)) for column, behind in clicks]

    def _onlys(self, key):
        sorting, filters, folds = key
        return [(("only", column, low, high), (sorting, _with(filters, column, (low, high)), folds))
                for column in self._columns
                for low, high in self._bounds[column]]

    def _foldings(self, key, lines):
        sorting, filters, folds = key
        values = [line[1] for line in lines if line[0] == "head"]
        return [(deed, (sorting, filters, _with(folds, column, behind)))
                for column, sign in sorting[:1]
                for deed, behind in self._folds[column].steps(folds[column], values)]

    def needed(self, view):
        """No fewer deeds than these lead to the wanted view; None if none do."""
        if view not in self._needed:
            sorting, filters, folds = self._numbers.key_of(view)
            columns = [column for column in self._columns if not self._folds[column].is_wanted(folds[column])]
            heads = self._heads_needed(sorting, columns)
            onlys = [bounds for bounds, wanted in zip(filters, self._filters) if bounds != wanted]
            folded = self._folds_needed(columns, filters, folds)
            self._needed[view] = None if heads is None else heads + len(onlys) + folded
        return self._needed[view]

    def _heads_needed(self, sorting, columns):
        """How many clicks on heads lead to the wanted sorting, each of some columns being that of the first key in
        between; None if none do."""
        key = (sorting, _but_first(sorting, columns))
        if key not in self._heads:
            heads = first_deeds(
                key,
                lambda state: self._heads_clicked(state),
                lambda state: state == (self._sorting, ()))
            self._heads[key] = None if heads is None else len(heads)
        return self._heads[key]

    def _heads_clicked(self, state):
        sorting, columns = state
        clicks = [(column, tuple(clicked_on(list(sorting), [column]))) for column in self._columns]
        return [(column, (behind, _but_first(behind, columns))) for column, behind in clicks]

    def _folds_needed(self, columns, filters, folds):
        """No fewer deeds than these lead to the folds of some columns, among them those on filters that are needed for
        the folds alone."""
        near = _combined(list(zip(filters, self._filters)))
        few = sum([self._folds[column].needed(folds[column], self._groups_by(column, near)) for column in columns])
        # Each column can have the bounds that it has, and the wanted ones; others need a deed more.
        fewest = sum([self._folds[column].needed(folds[column], self._all_groups[column]) for column in columns])
        return min(few, fewest + 1)

    def _groups_by(self, column, several):
        """The values that the groups of a column have by some filters."""
        cells = self._table.column(column)
        shown = [sorted(set([cells[row] for row in let_rows(self._table, list(filters))])) for filters in several]
        return tuple(sorted(set([tuple(values) for values in shown])))


def _useful_bounds(table, column, wanted):
    """Of the bounds of a column with which it lets the same rows one, the wanted ones ahead of others."""
    cells = sorted(set(table.column(column)))
    found = {}
    for low, high in [wanted, (None, None), (1, 0)] + [(low, high) for low in cells for high in cells]:
        filters = with_only(open_filters(table.width), [("only", column, low, high)])
        found.setdefault(tuple(let_rows(table, filters)), (low, high))
    return list(found.values())


def _combined(several):
    """All tuples of one entry of each of some lists."""
    found = [()]
    for entries in several:
        found = [parts + (entry,) for parts in found for entry in entries]
    return found


def _others(entries, left_out):
    return [entry for entry in entries if entry not in left_out]


def _with(parts, at, part):
    return parts[:at] + (part,) + parts[at + 1:]


def _but_first(sorting, columns):
    """The columns but that of the first key."""
    return tuple(_others(columns, [column for column, sign in sorting[:1]]))


def _folded_late(deeds, column, values):
    """The deeds with folds of some values where a column is that of the first key for the last time."""
    heads = [at for at, deed in enumerate(deeds) if deed[0] == "sort"]
    last = max([at for at in heads if deeds[at][1] == column])
    ending = min([at for at in heads if at > last], default=len(deeds))
    return deeds[:ending] + [("fold", value) for value in values] + deeds[ending:]
