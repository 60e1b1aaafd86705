"""[4], [5] and listwindow/tables.py."""

import unittest

from listwindow.errors import InvalidColumn, InvalidNumber, InvalidRow
from listwindow.tables import Table
from tests.support import empty_table, error_of, example_table, great_table


class TableTest(unittest.TestCase):
    def test_what_it_is_made_of(self):
        table = Table(2, [[3, 1], [1, -2]])
        self.assertEqual((table.width, table.rows, len(table)), (2, [[3, 1], [1, -2]], 2))

    def test_without_rows_and_with_one_column(self):
        self.assertEqual((Table(3, []).width, Table(3, []).rows, len(Table(3, []))), (3, [], 0))
        self.assertEqual((Table(1, [[5]]).width, Table(1, [[5]]).rows), (1, [[5]]))

    def test_width_of_less_than_one(self):
        self.assertEqual(error_of(Table, 0, []), (InvalidNumber, 0))
        self.assertEqual(error_of(Table, -3, [[1]]), (InvalidNumber, -3))

    def test_rows_with_another_number_of_cells(self):
        self.assertEqual(error_of(Table, 2, [[1, 2], [1], [1, 2, 3]]), (InvalidRow, 1))
        self.assertEqual(error_of(Table, 2, [[1, 2], [1, 2], [1, 2, 3]]), (InvalidRow, 2))
        self.assertEqual(error_of(Table, 1, [[]]), (InvalidRow, 0))

    def test_the_width_is_looked_at_first(self):
        self.assertEqual(error_of(Table, 0, [[1]]), (InvalidNumber, 0))

    def test_cell(self):
        table = example_table()
        self.assertEqual([table.cell(0, 0), table.cell(4, 1), table.cell(row=2, column=1)], [3, 1, 2])

    def test_cell_errors(self):
        table = example_table()
        self.assertEqual(error_of(table.cell, 5, 0), (InvalidRow, 5))
        self.assertEqual(error_of(table.cell, -1, 0), (InvalidRow, -1))
        self.assertEqual(error_of(table.cell, 0, 2), (InvalidColumn, 2))
        self.assertEqual(error_of(table.cell, 0, -1), (InvalidColumn, -1))
        self.assertEqual(error_of(table.cell, 9, 9), (InvalidRow, 9))
        self.assertEqual(error_of(empty_table().cell, 0, 0), (InvalidRow, 0))

    def test_column(self):
        self.assertEqual(example_table().column(0), [3, 1, 3, 2, 1])
        self.assertEqual(example_table().column(column=1), [1, 2, 2, 1, 1])
        self.assertEqual(empty_table().column(1), [])

    def test_column_errors(self):
        self.assertEqual(error_of(example_table().column, 2), (InvalidColumn, 2))
        self.assertEqual(error_of(example_table().column, -1), (InvalidColumn, -1))

    def test_with_cell(self):
        table = example_table()
        other = table.with_cell(3, 0, -5)
        self.assertEqual(other.rows, [[3, 1], [1, 2], [3, 2], [-5, 1], [1, 1]])
        self.assertEqual(table, example_table())
        self.assertEqual(table.with_cell(row=3, column=0, value=-5), other)
        self.assertEqual(table.with_cell(3, 0, 2), table)

    def test_with_cell_errors(self):
        table = example_table()
        self.assertEqual(error_of(table.with_cell, 5, 2, 0), (InvalidRow, 5))
        self.assertEqual(error_of(table.with_cell, -1, 0, 0), (InvalidRow, -1))
        self.assertEqual(error_of(table.with_cell, 4, 2, 0), (InvalidColumn, 2))
        self.assertEqual(error_of(table.with_cell, 4, -1, 0), (InvalidColumn, -1))
        self.assertEqual(table, example_table())

    def test_with_row(self):
        table = example_table()
        self.assertEqual(table.with_row([8, 9]).rows, table.rows + [[8, 9]])
        self.assertEqual(table.with_row(cells=[8, 9]), table.with_row([8, 9]))
        self.assertEqual(empty_table().with_row([1, 2]).rows, [[1, 2]])
        self.assertEqual(table, example_table())

    def test_with_row_errors(self):
        self.assertEqual(error_of(example_table().with_row, [1]), (InvalidRow, 1))
        self.assertEqual(error_of(example_table().with_row, []), (InvalidRow, 0))
        self.assertEqual(error_of(example_table().with_row, [1, 2, 3]), (InvalidRow, 3))

    def test_without_row(self):
        table = example_table()
        self.assertEqual(table.without_row(0).rows, [[1, 2], [3, 2], [2, 1], [1, 1]])
        self.assertEqual(table.without_row(2).rows, [[3, 1], [1, 2], [2, 1], [1, 1]])
        self.assertEqual(table.without_row(row=4).rows, [[3, 1], [1, 2], [3, 2], [2, 1]])
        self.assertEqual(Table(1, [[1]]).without_row(0), Table(1, []))
        self.assertEqual(table, example_table())

    def test_without_row_errors(self):
        self.assertEqual(error_of(example_table().without_row, 5), (InvalidRow, 5))
        self.assertEqual(error_of(example_table().without_row, -1), (InvalidRow, -1))
        self.assertEqual(error_of(empty_table().without_row, 0), (InvalidRow, 0))

    def test_picked(self):
        table = example_table()
        self.assertEqual(table.picked([4, 0]).rows, [[1, 1], [3, 1]])
        self.assertEqual(table.picked([2, 2, 0]).rows, [[3, 2], [3, 2], [3, 1]])
        self.assertEqual(table.picked([]), empty_table())
        self.assertEqual(table.picked(rows=[0, 1, 2, 3, 4]), table)

    def test_picked_errors(self):
        self.assertEqual(error_of(example_table().picked, [0, 7, -1]), (InvalidRow, 7))
        self.assertEqual(error_of(example_table().picked, [0, -1, 7]), (InvalidRow, -1))

    def test_sum(self):
        table = example_table()
        self.assertEqual((table + Table(2, [[9, 9]])).rows, table.rows + [[9, 9]])
        self.assertEqual((Table(2, [[9, 9]]) + table).rows, [[9, 9]] + table.rows)
        self.assertEqual(table + empty_table(), table)
        self.assertEqual(len(table + table), 10)
        self.assertEqual(table, example_table())

    def test_sum_of_unlike_widths(self):
        self.assertEqual(error_of(lambda: example_table() + Table(3, [])), (InvalidNumber, 3))
        self.assertEqual(error_of(lambda: Table(3, []) + example_table()), (InvalidNumber, 2))

    def test_sum_with_something_else(self):
        for other in [[[1, 2]], 3, None]:
            with self.assertRaises(TypeError):
                example_table() + other

    def test_equality(self):
        table = example_table()
        self.assertTrue(table == example_table())
        self.assertFalse(table != example_table())
        self.assertFalse(table == table.with_cell(0, 0, 4))
        self.assertFalse(table == table.without_row(4))
        self.assertFalse(Table(1, []) == Table(2, []))
        self.assertTrue(Table(2, []) == Table(2, []))

    def test_nothing_else_is_equal(self):
        table = example_table()
        for other in [table.rows, (2, table.rows), None, 5, "table", table.width]:
            self.assertFalse(table == other)
            self.assertTrue(table != other)

    def test_cells_at_the_limits(self):
        table = great_table()
        self.assertEqual((table.width, len(table)), (5, 40))
        self.assertEqual(len(str(abs(table.cell(39, 4)))), 30)
        self.assertTrue(any(cell < 0 for cell in table.column(0)))
        self.assertEqual(len(table + table), 80)
        self.assertEqual((table + table).picked([79, 0]).rows, [table.rows[39], table.rows[0]])
        self.assertEqual((table + table).column(2), table.column(2) + table.column(2))
        self.assertEqual(table + table, great_table() + great_table())

    def test_it_keeps_nothing_that_is_passed(self):
        rows = [[3, 1], [1, 2]]
        table = Table(2, rows)
        rows[0][0] = 9
        rows.append([5, 5])
        self.assertEqual(table.rows, [[3, 1], [1, 2]])
        cells = [7, 7]
        longer = table.with_row(cells)
        cells[0] = 0
        self.assertEqual(longer.rows, [[3, 1], [1, 2], [7, 7]])

    def test_what_it_returns_is_new(self):
        table = example_table()
        rows = table.rows
        rows[0][0] = 9
        rows.pop()
        table.column(0).append(4)
        self.assertEqual(table, example_table())
        self.assertEqual(table.rows, example_table().rows)

    def test_tables_made_of_it_are_apart(self):
        table = example_table()
        twice = table.picked([0, 0])
        self.assertEqual(twice.with_cell(0, 0, 8).rows, [[8, 1], [3, 1]])
        self.assertEqual((table + table).with_cell(0, 0, 8).rows[5], [3, 1])
        self.assertEqual(table, example_table())
