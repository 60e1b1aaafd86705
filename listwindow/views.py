"""Views: a table with a sorting, filters and folds, and the lines that it shows."""

from listwindow.checks import check_deed_columns, check_different_values, check_filters, check_folds, check_sorting
from listwindow.filters import let_rows, open_filters, with_only
from listwindow.sortings import clicked_on, order_of


class View:
    """What is seen of a table. It never changes; done returns views of their own."""

    def __init__(self, table, sorting, filters, folds):
        check_sorting(table.width, sorting)
        check_filters(table.width, filters)
        check_folds(table.width, folds)
        for folded in folds:
            check_different_values(folded)
        self._table = table
        self._sorting = list(sorting)
        self._filters = list(filters)
        self._folds = [sorted(folded) for folded in folds]

    @property
    def table(self):
        return self._table

    @property
    def sorting(self):
        return list(self._sorting)

    @property
    def filters(self):
        return list(self._filters)

    @property
    def folds(self):
        return [list(folded) for folded in self._folds]

    def __len__(self):
        return len(self.lines())

    def __eq__(self, other):
        return (isinstance(other, View) and self._table == other._table and self._sorting == other._sorting
                and self._filters == other._filters and self._folds == other._folds)

    def shown(self):
        let = let_rows(self._table, self._filters)
        return [row for row in order_of(self._table, self._sorting) if row in let]

    def groups(self):
        if not self._sorting:
            return []
        shown = self.shown()
        cells = self._table.column(self._sorting[0][0])
        # The rows of a group are neighbours: where one differs from the row before it, a group begins.
        firsts = [row for at, row in enumerate(shown) if at == 0 or cells[row] != cells[shown[at - 1]]]
        return [(cells[first], [row for row in shown if cells[row] == cells[first]]) for first in firsts]

    def lines(self):
        if not self._sorting:
            return [("row", row) for row in self.shown()]
        folded = self._folds[self._sorting[0][0]]
        lines = []
        for value, rows in self.groups():
            lines.append(("head", value, len(rows)))
            if value not in folded:
                lines.extend([("row", row) for row in rows])
        return lines

    def open_rows(self):
        return [line[1] for line in self.lines() if line[0] == "row"]

    def done(self, deeds):
        check_deed_columns(self._table.width, deeds)
        view = self
        for deed in deeds:
            view = _behind(view, deed)
        return view


def plain_view(table, sorting):
    """A view with open filters and nothing folded."""
    return View(table, sorting, open_filters(table.width), [[] for _ in range(table.width)])


def _behind(view, deed):
    """The view behind one deed whose column was checked before."""
    if deed[0] == "sort":
        return View(view.table, clicked_on(view.sorting, [deed[1]]), view.filters, view.folds)
    if deed[0] == "only":
        return View(view.table, view.sorting, with_only(view.filters, [deed]), view.folds)
    if not view.sorting:
        return view
    column = view.sorting[0][0]
    folds = view.folds
    folds[column] = _folded_behind(view, folds[column], deed)
    return View(view.table, view.sorting, view.filters, folds)


def _folded_behind(view, folded, deed):
    """The folded values of the column of the first key behind a deed on groups."""
    if deed[0] == "all":
        return []
    value = deed[1]
    others = [other for other in folded if other != value]
    if deed[0] == "fold":
        return others if value in folded else folded + [value]
    values = [group[0] for group in view.groups()]
    if value not in values:
        return folded
    return others + [other for other in values if other != value and other not in folded]
