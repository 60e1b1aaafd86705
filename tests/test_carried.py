"""listwindow/carried.py."""

import random
import unittest

from listwindow.carried import cell_on, deeds_on, filters_on, folds_on
from listwindow.errors import InvalidColumn, InvalidFilters, InvalidSorting, InvalidValue
from listwindow.filters import open_filters
from listwindow.shapes import ranked
from listwindow.tables import Table
from listwindow.views import View
from tests.support import (all_sortings, empty_table, equal_table, error_of, example_table, great_table,
                           many_filters, some_tables)
from tests.test_views import random_deed


def stretched(table, by=7):
    """A table of the same shape with other cells, those of each column with other ones."""
    rows = ranked(table).rows
    return Table(table.width, [[by * (column + 1) * cell * cell - 5 for column, cell in enumerate(cells)]
                               for cells in rows])


class CellOnTest(unittest.TestCase):
    def test_cell_on(self):
        table = example_table()
        self.assertEqual(cell_on(table, ranked(table), 0, 3), 2)
        self.assertEqual(cell_on(one=ranked(table), other=table, column=1, value=1), 2)
        self.assertIsNone(cell_on(table, ranked(table), 0, 7))
        self.assertIsNone(cell_on(empty_table(), empty_table(), 0, 7))
        self.assertEqual(cell_on(equal_table(1, 3), Table(1, [[-4]] * 3), 0, 7), -4)

    def test_not_of_one_shape(self):
        table = example_table()
        self.assertIsNone(cell_on(table, table.with_cell(0, 0, 0), 0, 3))
        self.assertIsNone(cell_on(table, table + table, 0, 3))
        self.assertIsNone(cell_on(Table(1, []), Table(2, []), 0, 3))

    def test_errors(self):
        table = example_table()
        for other in (table, table + table, Table(9, [])):
            self.assertEqual(error_of(cell_on, table, other, 2, 3), (InvalidColumn, 2))
            self.assertEqual(error_of(cell_on, table, other, -1, 3), (InvalidColumn, -1))

    def test_each_cell(self):
        for table in some_tables(2) + [great_table()]:
            other = stretched(table)
            for row in range(len(table)):
                for column in range(table.width):
                    self.assertEqual(cell_on(table, other, column, table.cell(row, column)), other.cell(row, column))


class FiltersOnTest(unittest.TestCase):
    def test_filters_on(self):
        table = example_table()
        self.assertEqual(filters_on(table, ranked(table), [(2, None), (None, 1)]), [(1, None), (None, 0)])
        self.assertEqual(filters_on(table, ranked(table), [(9, None), (None, 0)]), [(3, None), (None, -1)])
        other = Table(2, [[30, -7], [10, 50], [30, 50], [20, -7], [10, -7]])
        self.assertEqual(filters_on(one=table, other=other, filters=[(0, 2), (2, 9)]), [(10, 20), (50, 50)])
        self.assertEqual(filters_on(table, other, [(4, 0), (3, 0)]), [(31, 9), (51, -8)])
        self.assertEqual(filters_on(table, other, [(None, None), (3, 0)]), [(None, None), (51, -8)])

    def test_bounds_between_cells(self):
        one, other = Table(1, [[10], [20]]), Table(1, [[3], [4]])
        self.assertEqual(filters_on(one, other, [(15, 15)]), [(4, 3)])
        self.assertEqual(filters_on(one, other, [(11, 19)]), [(4, 3)])
        self.assertEqual(filters_on(one, other, [(10, 20)]), [(3, 4)])

    def test_without_rows(self):
        filters = [(None, None), (5, None), (None, 5), (7, 3)]
        self.assertEqual(filters_on(Table(4, []), Table(4, []), filters), [(None, None), (0, None), (None, 0), (0, 0)])

    def test_not_of_one_shape(self):
        table = example_table()
        self.assertIsNone(filters_on(table, table.with_cell(0, 0, 0), open_filters(2)))
        self.assertIsNone(filters_on(Table(1, []), Table(2, []), open_filters(1)))

    def test_errors(self):
        table = example_table()
        for other in (table, table + table, Table(3, [])):
            self.assertEqual(error_of(filters_on, table, other, open_filters(3)), (InvalidFilters, 3))
            self.assertEqual(error_of(filters_on, table, other, []), (InvalidFilters, 0))


class FoldsOnTest(unittest.TestCase):
    def test_folds_on(self):
        table = example_table()
        self.assertEqual(folds_on(table, ranked(table), [[3, 8], []]), [[2], []])
        self.assertEqual(folds_on(one=table, other=ranked(table), folds=[[3, 1, 2], [2, 5]]), [[0, 1, 2], [1]])
        self.assertEqual(folds_on(empty_table(), empty_table(), [[3], [4]]), [[], []])

    def test_ascending(self):
        one, other = Table(1, [[1], [2], [3]]), Table(1, [[-9], [0], [4]])
        self.assertEqual(folds_on(one, other, [[3, 1, 2]]), [[-9, 0, 4]])

    def test_60_values(self):
        table = great_table()
        folds = [list(range(48)) + sorted(set(table.column(column)))[:12] for column in range(5)]
        told = [sorted({ranked(table).cell(row, column) for row in range(40) if table.cell(row, column) in folded})
                for column, folded in enumerate(folds)]
        self.assertEqual(folds_on(table, ranked(table), folds), told)

    def test_not_of_one_shape(self):
        self.assertIsNone(folds_on(example_table(), example_table().with_cell(0, 0, 0), [[], []]))

    def test_errors(self):
        table = example_table()
        for other in (table, table + table, Table(3, [])):
            self.assertEqual(error_of(folds_on, table, other, [[]]), (InvalidValue, 1))
            self.assertEqual(error_of(folds_on, table, other, [[], [], []]), (InvalidValue, 3))


class DeedsOnTest(unittest.TestCase):
    def test_deeds_on(self):
        table = example_table()
        deeds = [("fold", 3), ("sort", 1), ("fold", 2), ("fold", 9), ("only", 0, 2, None)]
        self.assertEqual(deeds_on(table, ranked(table), [(0, 1)], deeds),
                         [("fold", 2), ("sort", 1), ("fold", 1), ("only", 0, 1, None)])
        self.assertEqual(deeds_on(one=table, other=ranked(table), sorting=[(1, -1)], deeds=[("one", 2), ("one", 3)]),
                         [("one", 1)])
        self.assertEqual(deeds_on(table, ranked(table), [(1, -1)], []), [])

    def test_without_keys(self):
        table = example_table()
        deeds = [("fold", 3), ("one", 3), ("all",), ("only", 1, None, 1), ("sort", 0), ("one", 3), ("fold", 1)]
        self.assertEqual(deeds_on(table, ranked(table), [], deeds),
                         [("all",), ("only", 1, None, 0), ("sort", 0), ("one", 2), ("fold", 0)])

    def test_the_column_is_that_of_the_first_key_then(self):
        table = example_table()
        deeds = [("sort", 1), ("fold", 1), ("sort", 1), ("fold", 1), ("sort", 0), ("fold", 1), ("fold", 3)]
        self.assertEqual(deeds_on(table, Table(2, [[30, 5], [10, 6], [30, 6], [20, 5], [10, 5]]), [(0, -1)], deeds),
                         [("sort", 1), ("fold", 5), ("sort", 1), ("fold", 5), ("sort", 0), ("fold", 10), ("fold", 30)])

    def test_not_of_one_shape(self):
        table = example_table()
        self.assertIsNone(deeds_on(table, table.with_cell(0, 0, 0), [(0, 1)], [("sort", 1)]))
        self.assertIsNone(deeds_on(table, table + table, [(0, 1)], []))

    def test_errors(self):
        table = example_table()
        for other in (table, table + table, Table(3, [])):
            self.assertEqual(error_of(deeds_on, table, other, [(2, 1)], [("sort", 7)]), (InvalidSorting, [(2, 1)]))
            self.assertEqual(error_of(deeds_on, table, other, [], [("fold", 9), ("only", 2, 1, 1), ("sort", -1)]),
                             (InvalidColumn, 2))
            self.assertEqual(error_of(deeds_on, table, other, [], [("sort", -1), ("only", 2, 1, 1)]),
                             (InvalidColumn, -1))

    def assert_alike(self, one, other, view, its):
        """The same rows at the same lines, and heads of the same groups."""
        lines = [line if line[0] == "row" else ("head", cell_on(one, other, view.sorting[0][0], line[1]), line[2])
                 for line in view.lines()]
        self.assertEqual(its.lines(), lines)
        self.assertEqual((its.shown(), its.open_rows()), (view.shown(), view.open_rows()))

    def test_the_same_rows_at_the_same_lines(self):
        chance = random.Random(6)
        for table in some_tables(2, number=60, most=6):
            other = stretched(table)
            sorting = chance.choice(all_sortings(2))
            filters = [chance.choice(many_filters([0, 2])) for _ in range(2)]
            folds = [chance.sample(range(-1, 4), chance.randrange(4)) for _ in range(2)]
            view = View(table, sorting, filters, folds)
            its = View(other, sorting, filters_on(table, other, filters), folds_on(table, other, folds))
            deeds = [random_deed(chance, 2, [-1, 0, 1, 2, 3]) for _ in range(12)]
            for number in range(len(deeds) + 1):
                told = deeds_on(table, other, sorting, deeds[:number])
                self.assert_alike(table, other, view.done(deeds[:number]), its.done(told))

    def test_60_deeds_on_a_great_table(self):
        chance = random.Random(7)
        table = great_table()
        other = stretched(table)
        values = table.column(0) + table.column(1) + [10 ** 59]
        deeds = [random_deed(chance, 5, values) for _ in range(60)]
        deeds = [("only",) + (deed[1], chance.choice(values), None) if deed[0] == "only" else deed for deed in deeds]
        view = View(table, [(0, 1)], open_filters(5), [[] for _ in range(5)])
        its = View(other, [(0, 1)], open_filters(5), [[] for _ in range(5)])
        for number in (20, 40, 60):
            told = deeds_on(table, other, [(0, 1)], deeds[:number])
            self.assert_alike(table, other, view.done(deeds[:number]), its.done(told))
