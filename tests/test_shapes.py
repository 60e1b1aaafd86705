"""[4] and listwindow/shapes.py."""

import unittest

from listwindow.errors import InvalidColumn, InvalidNumber
from listwindow.shapes import (alike_keys, fewest_telling, one_shape, order_first_apart, ranked, ranks, tied_rows,
                               told_columns)
from listwindow.tables import Table
from tests.support import (all_sortings, empty_table, equal_table, error_of, example_table, great_table, order_by,
                           small_tables, some_tables, sublists)


def naive_ranks(table, column):
    cells = [table.cell(row, column) for row in range(len(table))]
    return [len({other for other in cells if other < cell}) for cell in cells]


def naive_told(table, columns):
    rows = table.rows
    return [column for column in range(table.width)
            if all(one[column] == other[column] for one in rows for other in rows
                   if all(one[at] == other[at] for at in columns))]


def key_orders(table, column, sign):
    """All that a key says of two rows."""
    cells = table.column(column)
    return [[(sign * one > sign * other) - (sign * one < sign * other) for other in cells] for one in cells]


class RanksTest(unittest.TestCase):
    def test_ranks(self):
        self.assertEqual(ranks(example_table(), 0), [2, 0, 2, 1, 0])
        self.assertEqual(ranks(table=example_table(), column=1), [0, 1, 1, 0, 0])
        self.assertEqual(ranks(Table(1, [[-5], [10 ** 29], [-10 ** 29], [-5]]), 0), [1, 2, 0, 1])
        self.assertEqual(ranks(empty_table(), 1), [])
        self.assertEqual(ranks(equal_table(), 1), [0, 0, 0, 0])

    def test_ranks_and_ranked_of_many_tables(self):
        for table in some_tables(3) + [great_table()]:
            for column in range(table.width):
                self.assertEqual(ranks(table, column), naive_ranks(table, column))
                self.assertEqual(ranked(table).column(column), naive_ranks(table, column))
            self.assertEqual((ranked(table).width, len(ranked(table))), (table.width, len(table)))

    def test_ranks_errors(self):
        self.assertEqual(error_of(ranks, example_table(), 2), (InvalidColumn, 2))
        self.assertEqual(error_of(ranks, example_table(), -1), (InvalidColumn, -1))

    def test_ranked(self):
        self.assertEqual(ranked(example_table()).rows, [[2, 0], [0, 1], [2, 1], [1, 0], [0, 0]])
        self.assertEqual(ranked(table=empty_table(3)), empty_table(3))


class ShapeTest(unittest.TestCase):
    def test_one_shape(self):
        self.assertTrue(one_shape(example_table(), ranked(example_table())))
        self.assertTrue(one_shape(one=Table(1, [[5], [-1]]), other=Table(1, [[100], [7]])))
        self.assertFalse(one_shape(Table(1, [[5], [-1]]), Table(1, [[5], [5]])))
        self.assertFalse(one_shape(Table(1, [[5], [-1]]), Table(1, [[-1], [5]])))
        self.assertFalse(one_shape(Table(2, [[1, 1]]), Table(2, [[1, 1], [1, 1]])))
        self.assertFalse(one_shape(Table(1, [[1]]), Table(2, [[1, 1]])))
        self.assertFalse(one_shape(Table(1, []), Table(2, [])))
        self.assertTrue(one_shape(Table(2, []), Table(2, [])))
        self.assertFalse(one_shape(Table(1, []), Table(1, [[1]])))

    def test_exactly_then_all_sortings_show_the_same_orders(self):
        tables = list(small_tables(1, 3, 3)) + list(small_tables(2, 2, 3))
        for one in tables:
            for other in tables:
                if one.width != other.width:
                    self.assertFalse(one_shape(one, other))
                    continue
                alike = all(order_by(one, keys) == order_by(other, keys) for keys in all_sortings(one.width))
                self.assertEqual(one_shape(one, other), alike)

    def test_order_first_apart(self):
        table = example_table()
        self.assertEqual(order_first_apart(table, table.with_cell(3, 0, 5)), [(0, -1)])
        self.assertEqual(order_first_apart(table, table.with_cell(3, 1, 5)), [(1, -1)])
        self.assertIsNone(order_first_apart(one=table, other=ranked(table)))
        self.assertIsNone(order_first_apart(empty_table(), empty_table()))
        # Falling, both show the rows by their numbers.
        self.assertEqual(order_first_apart(Table(1, [[1], [1]]), Table(1, [[2], [1]])), [(0, 1)])

    def test_order_first_apart_is_the_first(self):
        for width, rows, kinds in [(1, 3, 3), (2, 2, 3), (2, 3, 2)]:
            tables = list(small_tables(width, rows, kinds))[::3]
            orders = [[order_by(table, keys) for keys in all_sortings(width)] for table in tables]
            for one, told in zip(tables, orders):
                for other, others in zip(tables, orders):
                    first = [keys for keys, mine, its in zip(all_sortings(width), told, others) if mine != its][:1]
                    self.assertEqual(order_first_apart(one, other), first[0] if first else None)

    def test_order_first_apart_errors(self):
        self.assertEqual(error_of(order_first_apart, Table(1, [[1]]), Table(2, [])), (InvalidNumber, 2))
        self.assertEqual(error_of(order_first_apart, Table(2, [[1, 1]]), Table(2, [])), (InvalidNumber, 0))
        self.assertEqual(error_of(order_first_apart, Table(2, []), Table(2, [[1, 1], [2, 2], [3, 3]])),
                         (InvalidNumber, 3))


class TiedRowsTest(unittest.TestCase):
    def test_tied_rows(self):
        table = example_table()
        self.assertEqual(tied_rows(table, [0]), [[0, 2], [1, 4]])
        self.assertEqual(tied_rows(table, [1]), [[0, 3, 4], [1, 2]])
        self.assertEqual(tied_rows(table, [0, 1]), [])
        self.assertEqual(tied_rows(table=table, columns=[0, 0]), [[0, 2], [1, 4]])

    def test_without_columns_all_rows(self):
        self.assertEqual(tied_rows(example_table(), []), [[0, 1, 2, 3, 4]])
        self.assertEqual(tied_rows(Table(1, [[4]]), []), [])
        self.assertEqual(tied_rows(empty_table(), []), [])

    def test_equal_rows(self):
        self.assertEqual(tied_rows(equal_table(3, 4), [2, 0, 1]), [[0, 1, 2, 3]])
        self.assertEqual(tied_rows(empty_table(), [0]), [])

    def test_by_their_first_rows(self):
        table = Table(1, [[9], [1], [9], [5], [1], [5]])
        self.assertEqual(tied_rows(table, [0]), [[0, 2], [1, 4], [3, 5]])

    def test_errors(self):
        self.assertEqual(error_of(tied_rows, example_table(), [0, 2, -1]), (InvalidColumn, 2))
        self.assertEqual(error_of(tied_rows, example_table(), [1, -1, 2]), (InvalidColumn, -1))


class AlikeKeysTest(unittest.TestCase):
    def test_alike_keys(self):
        table = Table(3, [[1, 9, 2], [2, 5, 2], [2, 5, 1]])
        self.assertEqual(alike_keys(table), [[(0, 1), (1, -1)], [(2, 1)]])
        self.assertEqual(alike_keys(table=example_table()), [[(0, 1)], [(1, 1)]])
        mixed = Table(5, [[1, 2, 3, 9, 0], [2, 1, 3, 8, 4]])
        self.assertEqual(alike_keys(mixed), [[(0, 1), (1, -1), (3, -1), (4, 1)], [(2, 1)]])

    def test_ranks_that_are_the_same_both_ways(self):
        self.assertEqual(alike_keys(empty_table(3)), [[(0, 1), (1, 1), (2, 1)]])
        self.assertEqual(alike_keys(equal_table(2, 3)), [[(0, 1), (1, 1)]])
        self.assertEqual(alike_keys(Table(1, [[1]])), [[(0, 1)]])

    def test_against_all_keys(self):
        for table in list(small_tables(2, 3, 3)) + some_tables(4):
            told = []
            for column in range(table.width):
                if any((column, sign) in keys for keys in told for sign in (1, -1)):
                    continue
                wanted = key_orders(table, column, 1)
                keys = [(column, 1)]
                for other in range(column + 1, table.width):
                    signs = [sign for sign in (1, -1) if key_orders(table, other, sign) == wanted]
                    keys.extend((other, sign) for sign in signs[:1])
                told.append(keys)
            self.assertEqual(alike_keys(table), told)


class ToldColumnsTest(unittest.TestCase):
    def test_told_columns(self):
        table = Table(3, [[1, 9, 2], [2, 5, 2], [2, 5, 1]])
        self.assertEqual(told_columns(table, [0]), [0, 1])
        self.assertEqual(told_columns(table, [2, 0, 2]), [0, 1, 2])
        self.assertEqual(told_columns(table=table, columns=[2]), [2])
        self.assertEqual(told_columns(table, []), [])
        self.assertEqual(told_columns(Table(2, [[1, 5], [2, 5]]), []), [1])
        self.assertEqual(told_columns(empty_table(3), []), [0, 1, 2])
        self.assertEqual(told_columns(Table(2, [[3, 4]]), []), [0, 1])

    def test_fewest_telling(self):
        table = Table(3, [[1, 9, 2], [2, 5, 2], [2, 5, 1]])
        self.assertEqual(fewest_telling(table, [2, 1, 0]), [0, 2])
        self.assertEqual(fewest_telling(table, [2, 1, 1]), [1, 2])
        self.assertEqual(fewest_telling(table=table, columns=[]), [])
        self.assertEqual(fewest_telling(equal_table(3, 2), [2, 1]), [])
        self.assertEqual(fewest_telling(empty_table(), [1, 1]), [])

    def test_against_the_definitions(self):
        for table in some_tables(3, number=40) + some_tables(4, seed=8):
            for columns in sublists(range(table.width)):
                told = naive_told(table, columns)
                self.assertEqual(told_columns(table, columns[::-1]), told)
                fewest = [part for part in sublists(columns) if naive_told(table, part) == told][0]
                self.assertEqual(fewest_telling(table, columns[::-1] + columns), fewest)

    def test_errors(self):
        for call in (told_columns, fewest_telling):
            self.assertEqual(error_of(call, example_table(), [0, 5, -1]), (InvalidColumn, 5))
            self.assertEqual(error_of(call, example_table(), [-1, 5]), (InvalidColumn, -1))

    def test_at_the_limits(self):
        table = great_table()
        for columns in ([0, 1, 2, 3, 4], [4, 3], []):
            self.assertEqual(told_columns(table, columns), naive_told(table, columns))
            fewest = [part for part in sublists(columns) if naive_told(table, part) == naive_told(table, columns)][0]
            self.assertEqual(fewest_telling(table, columns), fewest)
        tied = tied_rows(table, [1])
        self.assertEqual(sorted(row for rows in tied for row in rows),
                         [row for row in range(40) if table.column(1).count(table.cell(row, 1)) > 1])
        self.assertEqual(alike_keys(table), [[(column, 1)] for column in range(5)])
        self.assertIsNone(order_first_apart(table, ranked(table)))
