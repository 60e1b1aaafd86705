"""[10], [11] and listwindow/bounds.py."""

import itertools
import random
import unittest

from listwindow.bounds import fewest_bounds, hosts, widest
from listwindow.errors import InvalidRow, InvalidRows
from listwindow.tables import Table
from tests.support import (empty_table, equal_table, error_of, example_table, great_table, random_table,
                           shown_by, some_tables, sublists, within_bounds)

OPEN = (None, None)


def narrow(table, rows):
    return [(min(table.cell(row, column) for row in rows), max(table.cell(row, column) for row in rows))
            for column in range(table.width)]


def all_filters(table):
    """All filters whose bounds are from one less than the least cell to one more than the greatest, or None."""
    cells = [cell for row in table.rows for cell in row] or [0]
    bounds = [None] + list(range(min(cells) - 1, max(cells) + 2))
    pairs = list(itertools.product(bounds, repeat=2))
    return [list(told) for told in itertools.product(pairs, repeat=table.width)]


def are_within(one, other):
    return all(within_bounds(mine, others) for mine, others in zip(one, other))


def place(filters):
    """Filters as [bounds.py] orders them: a low None ahead of all others, a high None after all others."""
    return [(float("-inf") if low is None else low, float("inf") if high is None else high) for low, high in filters]


class WidestTest(unittest.TestCase):
    def test_examples(self):
        table = example_table()
        self.assertEqual(widest(table=table, rows=[2, 0]), [[(3, None), OPEN]])
        self.assertEqual(widest(table, [4, 2, 0, 1, 3]), [[OPEN, OPEN]])
        self.assertEqual(widest(table, [1, 3]), [])
        self.assertEqual(widest(equal_table(3, 2), [0]), [])
        self.assertEqual(widest(equal_table(3, 1), [0]), [[OPEN, OPEN, OPEN]])
        self.assertEqual(widest(Table(1, [[-5], [10 ** 30], [0]]), [2]), [[(-4, 10 ** 30 - 1)]])

    def test_none_stands_at_the_outer_ends(self):
        table = Table(2, [[0, 0], [-4, 5], [3, -2]])
        self.assertEqual(widest(table, [0]), [[(None, 2), (None, 4)], [OPEN, (-1, 4)], [(-3, 2), OPEN],
                                              [(-3, None), (-1, None)]])

    def test_in_ascending_order(self):
        self.assertEqual(widest(Table(2, [[0, 0], [-3, 1], [-1, 2]]), [0]),
                         [[OPEN, (None, 0)], [(-2, None), (None, 1)], [(0, None), OPEN]])
        self.assertEqual(widest(Table(2, [[-9, -9], [-6, -8], [-8, -7]]), [0]),
                         [[(None, -9), OPEN], [(None, -7), (None, -8)], [OPEN, (None, -9)]])

    def test_against_all_filters(self):
        chance = random.Random(1)
        tables = [random_table(chance, width, rows) for width, rows in [(1, 4), (1, 6), (2, 3), (2, 4), (2, 5), (2, 6)]]
        tables += some_tables(1, number=6, most=6) + [random_table(chance, 3, 4, 2) for _ in range(2)]
        for table in tables:
            showing = {}
            for filters in all_filters(table):
                showing.setdefault(tuple(shown_by(table, filters)), []).append(filters)
            for rows in sublists(range(len(table)))[1:]:
                every = showing.get(tuple(rows), [])
                told = widest(table, rows)
                self.assertEqual(told, sorted(told, key=place))
                for filters in told:
                    self.assertIn(filters, every)
                    self.assertEqual([other for other in every if are_within(filters, other)], [filters])
                self.assertEqual(len(told), len([filters for filters in every if sum(
                    are_within(filters, other) for other in every) == 1]))

    def test_filters_show_just_the_rows_exactly_between_the_tight_and_the_widest(self):
        chance = random.Random(5)
        for table in [random_table(chance, 2, 4), random_table(chance, 2, 5), random_table(chance, 1, 6, 4)]:
            for rows in sublists(range(len(table)))[1:]:
                told = widest(table, rows)
                for filters in all_filters(table):
                    between = are_within(narrow(table, rows), filters) and any(
                        are_within(filters, other) for other in told)
                    self.assertEqual(shown_by(table, filters) == rows, between)

    def test_at_the_limits(self):
        chance = random.Random(2)
        for _ in range(3):
            table = random_table(chance, 3, 6, 9)
            for rows in ([0], [3, 1], [5, 4, 0]):
                for filters in widest(table, rows):
                    self.assertEqual(shown_by(table, filters), sorted(rows))
        spread = Table(3, [[0, 0, 0], [1, 2, 3], [2, 3, 1], [3, 1, 2], [-1, 4, -2], [5, -3, -3]])
        self.assertGreater(len(widest(spread, [0])), 5)

    def test_errors(self):
        table = example_table()
        for call in (widest, fewest_bounds):
            self.assertEqual(error_of(call, table, [0, 0, 7, -1]), (InvalidRow, 7))
            self.assertEqual(error_of(call, table, [-1, 7]), (InvalidRow, -1))
            self.assertEqual(error_of(call, table, [5]), (InvalidRow, 5))
            self.assertEqual(error_of(call, table, [2, 0, 2]), (InvalidRows, [2, 0, 2]))
            self.assertEqual(error_of(call, table, []), (InvalidRows, []))
            self.assertEqual(error_of(call, empty_table(), []), (InvalidRows, []))
        self.assertEqual(widest(table, [0, 2]), [[(3, None), OPEN]])


class FewestBoundsTest(unittest.TestCase):
    def test_examples(self):
        table = example_table()
        self.assertEqual(fewest_bounds(table=table, rows=[0, 2]), [(0, "low")])
        self.assertEqual(fewest_bounds(table, [1]), [(0, "high"), (1, "low")])
        self.assertIsNone(fewest_bounds(table, [1, 3]))
        self.assertEqual(fewest_bounds(table, [3, 1, 0, 4, 2]), [])
        self.assertEqual(fewest_bounds(Table(2, [[1, 1], [2, 2]]), [0]), [(0, "high")])

    def test_against_the_definition(self):
        for table in some_tables(1) + some_tables(2) + some_tables(3, number=10, most=6):
            sides = [(column, side) for column in range(table.width) for side in ("high", "low")]
            for rows in sublists(range(len(table)))[1:]:
                tight = narrow(table, rows)
                told = None
                for choice in sublists(sides):
                    filters = [(low if (column, "low") in choice else None, high if (column, "high") in choice else None)
                               for column, (low, high) in enumerate(tight)]
                    if shown_by(table, filters) == rows:
                        told = choice
                        break
                self.assertEqual(fewest_bounds(table, rows[::-1]), told)

    def test_at_the_limits(self):
        table = great_table()
        self.assertEqual(fewest_bounds(table, list(range(40))), [])
        rows = shown_by(table, narrow(table, [7, 30]))
        told = fewest_bounds(table, rows[::-1])
        filters = [(low if (column, "low") in told else None, high if (column, "high") in told else None)
                   for column, (low, high) in enumerate(narrow(table, rows))]
        self.assertEqual(shown_by(table, filters), rows)
        self.assertIsNone(fewest_bounds(table, [row for row in range(40) if row != 9 and row != 17]))


class HostsTest(unittest.TestCase):
    def test_examples(self):
        table = example_table()
        self.assertEqual(hosts(table=table, rows=[3, 1, 0, 2], row=4), [0, 1])
        self.assertIsNone(hosts(table, [0, 2], 1))
        self.assertEqual(hosts(table, [2, 0], 0), [0])
        self.assertIsNone(hosts(table, [], 0))
        self.assertEqual(hosts(equal_table(2, 3), [2, 1], 0), [1])

    def test_against_the_definition(self):
        for table in some_tables(1, most=6) + some_tables(2, most=6) + some_tables(3, number=6, most=6):
            for rows in sublists(range(len(table))):
                for row in range(len(table)):
                    fitting = [part for part in sublists(rows)
                               if part and row in shown_by(table, narrow(table, part))]
                    told = hosts(table, rows[::-1], row)
                    self.assertEqual(told, fitting[0] if fitting else None)
                    self.assertLessEqual(len(told or []), 2 * table.width)

    def test_errors(self):
        table = example_table()
        self.assertEqual(error_of(hosts, table, [0, 0, 7, -1], 9), (InvalidRow, 7))
        self.assertEqual(error_of(hosts, table, [0, 0], 9), (InvalidRows, [0, 0]))
        self.assertEqual(error_of(hosts, table, [0], 9), (InvalidRow, 9))
        self.assertEqual(error_of(hosts, table, [], -1), (InvalidRow, -1))
        self.assertEqual(error_of(hosts, empty_table(), [], 0), (InvalidRow, 0))
        self.assertEqual(hosts(table, [0, 1], 4), [0, 1])
