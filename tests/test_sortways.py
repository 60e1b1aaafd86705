"""[7] and listwindow/sortways.py."""

import itertools
import unittest

from listwindow.errors import InvalidNumber, InvalidOrder, InvalidRow, InvalidRows, InvalidSorting
from listwindow.sortways import (distance, farthest, first_beginning, first_way, nearest, order_distance, orders,
                                 sortings_showing)
from listwindow.tables import Table
from tests.support import (all_sortings, click_all, empty_table, equal_table, error_of, example_table, great_table,
                           order_by, some_tables, ways_from)

WRONG_SORTINGS = [[(0, 1), (0, -1)], [(0, 0)], [(-1, 1)], [(2, 1)]]
WRONG_ORDERS = [[], [0, 1, 2, 3], [0, 1, 2, 3, 3], [0, 1, 2, 3, 5], [-1, 0, 1, 2, 3], [0, 1, 2, 3, 4, 4]]


def showing(table, order):
    return [keys for keys in all_sortings(table.width) if order_by(table, keys) == order]


def best_way(ways, goals):
    """The first of the shortest of the ways to some sortings."""
    found = [way for goal in goals for way in ways.get(tuple(goal), [])]
    return min(found, key=lambda way: (len(way), way), default=None)


class WayTest(unittest.TestCase):
    def test_examples(self):
        self.assertEqual(distance(2, [(0, 1)], [(1, -1), (0, 1)]), 2)
        self.assertEqual(distance(width=2, sorting=[(0, 1)], goal=[(0, -1)]), 1)
        self.assertIsNone(distance(2, [(0, 1), (1, 1)], [(1, 1)]))
        self.assertEqual(first_way(width=2, sorting=[(0, 1)], goal=[(0, -1), (1, 1)]), [1, 0, 0])
        self.assertIsNone(first_way(2, [(0, 1)], []))
        self.assertEqual((first_way(2, [(0, 1)], [(0, 1)]), distance(2, [], [])), ([], 0))

    def test_against_all_ways(self):
        for width in (1, 2, 3):
            for sorting in all_sortings(width):
                ways = ways_from(width, sorting)
                for goal in all_sortings(width):
                    told = ways.get(tuple(goal), [None])
                    self.assertEqual(len(told), 1)
                    self.assertEqual(first_way(width, sorting, goal), told[0])
                    self.assertEqual(distance(width, sorting, goal), None if told[0] is None else len(told[0]))

    def test_five_columns(self):
        for sorting in ([], [(3, 1)], [(4, -1), (0, 1), (2, -1)], [(column, 1) for column in range(5)]):
            ways = ways_from(5, sorting)
            for goal, told in list(ways.items())[::17]:
                self.assertEqual(first_way(5, sorting, list(goal)), told[0])
            missing = [goal for goal in ([], [(1, 1)], [(0, 1), (1, 1), (2, 1)]) if tuple(goal) not in ways]
            for goal in missing:
                self.assertIsNone(distance(5, sorting, goal))

    def test_errors(self):
        for call in (distance, first_way):
            self.assertEqual(error_of(call, 0, [(0, 0)], [(0, 0)]), (InvalidNumber, 0))
            for keys in WRONG_SORTINGS:
                self.assertEqual(error_of(call, 2, keys, [(9, 9)]), (InvalidSorting, keys))
                self.assertEqual(error_of(call, 2, [(1, 1)], keys), (InvalidSorting, keys))


class FarthestTest(unittest.TestCase):
    def test_examples(self):
        self.assertEqual(farthest(2, []), (4, [(0, -1), (1, -1)]))
        self.assertEqual(farthest(width=1, sorting=[(0, 1)]), (1, [(0, -1)]))

    def test_against_all_ways(self):
        for width in (1, 2, 3):
            for sorting in all_sortings(width):
                ways = ways_from(width, sorting)
                number = max(len(told[0]) for told in ways.values())
                goals = [goal for goal in all_sortings(width) if len(ways.get(tuple(goal), [[]])[0]) == number]
                self.assertEqual(farthest(width, sorting), (number, goals[0]))

    def test_errors(self):
        self.assertEqual(error_of(farthest, -1, [(0, 0)]), (InvalidNumber, -1))
        for keys in WRONG_SORTINGS:
            self.assertEqual(error_of(farthest, 2, keys), (InvalidSorting, keys))


class OrdersTest(unittest.TestCase):
    def test_orders(self):
        self.assertEqual(orders(Table(1, [[2], [1], [2]])), [[0, 1, 2], [0, 2, 1], [1, 0, 2]])
        self.assertEqual(orders(table=equal_table()), [[0, 1, 2, 3]])
        self.assertEqual(orders(empty_table()), [[]])

    def test_against_all_sortings(self):
        for table in some_tables(2) + some_tables(3, number=4) + [great_table(3)]:
            found = {tuple(order_by(table, keys)) for keys in all_sortings(table.width)}
            self.assertEqual(orders(table), [list(order) for order in sorted(found)])


class SortingsShowingTest(unittest.TestCase):
    def test_examples(self):
        self.assertEqual(sortings_showing(example_table(), [1, 4, 3, 0, 2]), [[(0, 1)]])
        self.assertEqual(sortings_showing(table=example_table(), order=[4, 3, 2, 1, 0]), [])
        self.assertEqual(sortings_showing(empty_table(), []), all_sortings(2))

    def test_against_all_sortings(self):
        for table in some_tables(2, number=10, most=4):
            for order in itertools.permutations(range(len(table))):
                self.assertEqual(sortings_showing(table, list(order)), showing(table, list(order)))

    def test_at_the_limits(self):
        table = great_table(3)
        order = order_by(table, [(2, 1), (0, -1)])
        self.assertEqual(sortings_showing(table, order), showing(table, order))

    def test_errors(self):
        for order in WRONG_ORDERS:
            self.assertEqual(error_of(sortings_showing, example_table(), order), (InvalidOrder, order))


class NearestTest(unittest.TestCase):
    def test_examples(self):
        table = example_table()
        self.assertIsNone(nearest(table, [(1, 1)], [1, 4, 3, 0, 2]))
        self.assertEqual(nearest(table=table, sorting=[], order=[1, 4, 3, 0, 2]), [0])
        self.assertEqual(nearest(table, [(0, 1)], [1, 4, 3, 0, 2]), [])
        self.assertEqual(nearest(equal_table(), [(1, 1)], [0, 1, 2, 3]), [])

    def test_against_all_ways(self):
        for width in (1, 2):
            for table in some_tables(width, number=10, most=4):
                for sorting in all_sortings(width):
                    ways = ways_from(width, sorting)
                    for order in itertools.permutations(range(len(table))):
                        best = best_way(ways, showing(table, list(order)))
                        self.assertEqual(nearest(table, sorting, list(order)), best)

    def test_three_columns(self):
        for table in some_tables(3, number=4, most=4) + [great_table(3)]:
            shown = [(keys, order_by(table, keys)) for keys in all_sortings(3)]
            for sorting in all_sortings(3)[::9]:
                ways = ways_from(3, sorting)
                for _, order in shown[::8]:
                    goals = [keys for keys, told in shown if told == order]
                    self.assertEqual(nearest(table, sorting, order), best_way(ways, goals))

    def test_errors(self):
        for keys in WRONG_SORTINGS:
            self.assertEqual(error_of(nearest, example_table(), keys, []), (InvalidSorting, keys))
        for order in WRONG_ORDERS:
            self.assertEqual(error_of(nearest, example_table(), [(0, 1)], order), (InvalidOrder, order))


class OrderDistanceTest(unittest.TestCase):
    def test_examples(self):
        small = Table(1, [[2], [1], [2]])
        self.assertEqual(order_distance(small, [0, 2, 1], [1, 0, 2]), (1, [(0, -1)], [0]))
        self.assertEqual(order_distance(small, [0, 1, 2], [0, 2, 1]), (2, [], [0, 0]))
        self.assertIsNone(order_distance(small, [1, 0, 2], [0, 1, 2]))
        self.assertEqual(order_distance(table=small, order=[0, 1, 2], goal=[0, 1, 2]), (0, [], []))
        self.assertIsNone(order_distance(small, [2, 1, 0], [0, 1, 2]))
        self.assertEqual(order_distance(empty_table(), [], []), (0, [], []))

    def test_against_all_ways(self):
        ways = {tuple(sorting): ways_from(2, sorting) for sorting in all_sortings(2)}
        for table in some_tables(2, number=12, most=4):
            every = [list(order) for order in itertools.permutations(range(len(table)))]
            for order in every[::2]:
                for goal in every:
                    best = None
                    for sorting in showing(table, order):
                        way = best_way(ways[tuple(sorting)], showing(table, goal))
                        if way is not None and (best is None or len(way) < best[0]):
                            best = (len(way), sorting, way)
                    self.assertEqual(order_distance(table, order, goal), best)

    def test_at_the_limits(self):
        table = equal_table(3, 40)
        self.assertEqual(order_distance(table, list(range(40)), list(range(40))), (0, [], []))
        table = great_table(3)
        order, goal = order_by(table, [(0, 1), (1, 1)]), order_by(table, [(2, -1), (0, 1), (1, 1)])
        number, sorting, clicks = order_distance(table, order, goal)
        self.assertEqual((number, order_by(table, sorting)), (len(clicks), order))
        self.assertEqual(order_by(table, click_all(sorting, clicks)), goal)
        self.assertEqual(number, 2)

    def test_errors(self):
        table = example_table()
        for order in WRONG_ORDERS:
            self.assertEqual(error_of(order_distance, table, order, [7]), (InvalidOrder, order))
            self.assertEqual(error_of(order_distance, table, [4, 3, 2, 1, 0], order), (InvalidOrder, order))


class FirstBeginningTest(unittest.TestCase):
    def test_examples(self):
        table = example_table()
        self.assertEqual(first_beginning(table, [4]), [(0, 1), (1, 1)])
        self.assertIsNone(first_beginning(table, [3]))
        self.assertEqual(first_beginning(table, [0, 2]), [(0, -1)])
        self.assertEqual(first_beginning(table=table, rows=[]), [])
        self.assertEqual(first_beginning(empty_table(), []), [])

    def test_against_all_sortings(self):
        for table in some_tables(2, number=12, most=4):
            for number in range(len(table) + 1):
                for rows in itertools.permutations(range(len(table)), number):
                    found = [keys for keys in all_sortings(2) if order_by(table, keys)[:number] == list(rows)]
                    self.assertEqual(first_beginning(table, list(rows)), found[0] if found else None)

    def test_at_the_limits(self):
        table = great_table(3)
        order = order_by(table, [(1, -1), (2, 1)])
        for number in (1, 5, 40):
            found = [keys for keys in all_sortings(3) if order_by(table, keys)[:number] == order[:number]]
            self.assertEqual(first_beginning(table, order[:number]), found[0])

    def test_errors(self):
        table = example_table()
        self.assertEqual(error_of(first_beginning, table, [0, 0, 5, -1]), (InvalidRow, 5))
        self.assertEqual(error_of(first_beginning, table, [0, -1, 5]), (InvalidRow, -1))
        self.assertEqual(error_of(first_beginning, table, [3, 0, 3]), (InvalidRows, [3, 0, 3]))
