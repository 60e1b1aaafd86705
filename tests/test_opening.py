"""[12], [13] and listwindow/opening.py."""

import unittest

from listwindow.errors import InvalidRows, InvalidValue
from listwindow.filters import open_filters
from listwindow.opening import fewest_to_folds, fewest_to_open
from listwindow.tables import Table
from listwindow.views import View
from tests.support import empty_table, error_of, example_table, first_list, great_table, sublists
from tests.test_folding import folds_after, group_deeds_on, some_views


def example_view(folded=(1,)):
    return View(example_table(), [(0, 1)], open_filters(2), [list(folded), []])


def first_to_folds(view, values):
    """The first shortest list of deeds on groups behind which just some values are folded: all are tried."""
    column = view.sorting[0][0]
    extra = [(word, value) for word in ("fold", "one") for value in set(values) | set(view.folds[column])]
    return first_list(tuple([tuple(folded) for folded in view.folds]), sorted(set(group_deeds_on(view) + extra)),
                      lambda folds, deed: folds_after(view, folds, deed),
                      lambda folds: list(folds[column]) == sorted(values))


def first_to_open(view, rows):
    """Likewise for open rows, with clicks on heads among the deeds: all lists up to three deeds are tried."""
    cells = sorted({cell for row in view.table.rows for cell in row})
    deeds = [("all",)] + [(word, cell) for word in ("fold", "one") for cell in cells]
    deeds += [("sort", column) for column in range(view.table.width)]

    def behind(state, deed):
        sorting, folds = state
        there = View(view.table, list(sorting), view.filters, [list(folded) for folded in folds]).done([deed])
        return (tuple(there.sorting), tuple([tuple(folded) for folded in there.folds]))

    def is_wanted(state):
        there = View(view.table, list(state[0]), view.filters, [list(folded) for folded in state[1]])
        return sorted(there.open_rows()) == rows
    start = (tuple(view.sorting), tuple([tuple(folded) for folded in view.folds]))
    return first_list(start, deeds, behind, is_wanted, most=3)


class FewestToFoldsTest(unittest.TestCase):
    def test_examples(self):
        view = example_view()
        self.assertEqual(fewest_to_folds(view=view, values=[3, 2]), [("one", 1)])
        self.assertEqual(fewest_to_folds(view, [9, 2, 1, 3]), [("fold", 2), ("fold", 3), ("fold", 9)])
        self.assertEqual(fewest_to_folds(view, []), [("all",)])
        self.assertEqual(fewest_to_folds(view, [1]), [])
        self.assertEqual(fewest_to_folds(example_view([7, 8, 1]), [3, 2]), [("all",), ("one", 1)])
        self.assertEqual(fewest_to_folds(example_view([7, 8, 5, 1]), [5]), [("all",), ("fold", 5)])
        self.assertEqual(fewest_to_folds(example_view([7, 1]), [8, 2, 3, 7]), [("fold", 8), ("one", 1)])

    def test_without_keys_and_without_groups(self):
        plain = View(example_table(), [], open_filters(2), [[1], [2]])
        self.assertEqual(fewest_to_folds(plain, []), [])
        self.assertIsNone(fewest_to_folds(plain, [1]))
        empty = View(empty_table(), [(1, 1)], open_filters(2), [[1], [2, 3]])
        self.assertEqual(fewest_to_folds(empty, [3, 2]), [])
        self.assertEqual(fewest_to_folds(empty, []), [("all",)])
        self.assertEqual(fewest_to_folds(empty, [3]), [("fold", 2)])
        self.assertEqual(fewest_to_folds(empty, [4]), [("all",), ("fold", 4)])

    def test_against_all_lists(self):
        for view in some_views(seed=7, number=26, most=4):
            if view.sorting:
                for values in sublists([0, 1, 2, 5]):
                    self.assertEqual(fewest_to_folds(view, values[::-1]), first_to_folds(view, values))

    def test_at_the_limits(self):
        table = great_table()
        values = sorted(set(table.column(2)))
        view = View(table, [(2, 1)], open_filters(5), [[], [], list(range(60)), [], []])
        self.assertEqual(fewest_to_folds(view, list(range(60, 120))), [("all",)] + [("fold", at) for at in range(60, 120)])
        self.assertEqual(fewest_to_folds(view, values[1:]), [("all",), ("one", values[0])])
        self.assertEqual(fewest_to_folds(view, values[:1] + list(range(60))), [("fold", values[0])])

    def test_errors(self):
        for view in (example_view(), View(example_table(), [], open_filters(2), [[1], [2]])):
            self.assertEqual(error_of(fewest_to_folds, view, [4, 3, 3, 4]), (InvalidValue, 3))
        self.assertEqual(fewest_to_folds(example_view(), [1, 3]), [("fold", 3)])


class FewestToOpenTest(unittest.TestCase):
    def test_examples(self):
        plain = example_view([])
        self.assertEqual(fewest_to_open(view=plain, rows=[4, 0, 3]), [("sort", 1), ("fold", 2)])
        self.assertEqual(fewest_to_open(plain, [3]), [("one", 2)])
        self.assertIsNone(fewest_to_open(plain, [1, 3]))
        self.assertEqual(fewest_to_open(plain, [2, 1, 0, 4, 3]), [])
        self.assertEqual(fewest_to_open(View(example_table(), [], open_filters(2), [[1], [2]]), [0, 3, 4]), [("sort", 1)])
        self.assertEqual(fewest_to_open(example_view(), [0, 1, 2, 3, 4]), [("all",)])
        # A click on another head opens as many with one deed; the deed with the lesser word comes first.
        folded = View(example_table(), [(0, 1)], open_filters(2), [[1, 2], []])
        self.assertEqual(fewest_to_open(folded, [0, 1, 2, 3, 4]), [("all",)])
        self.assertEqual(fewest_to_open(View(empty_table(), [], open_filters(2), [[], []]), []), [])

    def test_against_all_lists(self):
        for view in some_views(seed=9, number=22, most=4) + some_views(seed=10, number=7, most=3, width=3):
            for rows in sublists(view.shown()):
                expected = first_to_open(view, rows)
                told = fewest_to_open(view, rows[::-1])
                if expected is not None or told is None:
                    self.assertEqual(told, expected)
                else:
                    self.assertGreater(len(told), 3)
                    self.assertEqual(sorted(view.done(told).open_rows()), rows)

    def test_none_exactly_if_no_column_parts_the_rows(self):
        for view in some_views(seed=12):
            starts = [view] + [view.done([("sort", column)]) for column in range(view.table.width)]
            for rows in sublists(view.shown()):
                parted = [there for there in starts if there.sorting and all(
                    set(part) <= set(rows) or not set(part) & set(rows) for _, part in there.groups())]
                possible = bool(parted) or rows == sorted(view.shown())
                self.assertIs(fewest_to_open(view, rows) is not None, possible)

    def test_at_the_limits(self):
        table = great_table()
        values = sorted(set(table.column(3)))
        view = View(table, [(0, -1)], open_filters(5), [list(range(60))] * 5)
        rows = [row for row in range(40) if table.cell(row, 3) in values[::2]]
        deeds = fewest_to_open(view, rows)
        self.assertEqual(deeds[0], ("sort", 3))
        self.assertEqual(sorted(view.done(deeds).open_rows()), rows)
        ones = View(Table(2, [[row, 5] for row in range(40)]), [(1, 1)], open_filters(2), [[], []])
        self.assertEqual(fewest_to_open(ones, [17, 3]), [("sort", 0), ("one", 3), ("fold", 17)])

    def test_errors(self):
        hidden = View(example_table(), [(0, 1)], [(2, None), (None, None)], [[], []])
        for rows in ([0, 0], [1], [0, 1], [5], [-1], [0, 3, 2, 3]):
            self.assertEqual(error_of(fewest_to_open, hidden, rows), (InvalidRows, rows))
        self.assertEqual(fewest_to_open(hidden, [3]), [("fold", 3)])
