"""[9] and listwindow/barring.py."""

import itertools
import random
import unittest

from listwindow.barring import barring, judge_barring, least_barring, usable
from listwindow.errors import InvalidOrder
from listwindow.tables import Table
from tests.support import (all_sortings, empty_table, equal_table, error_of, example_table, great_table, order_by,
                           some_tables, sublists)

WRONG_ORDERS = [[], [0, 1, 2, 3], [0, 1, 2, 3, 3], [0, 1, 2, 3, 5], [-1, 0, 1, 2, 3], [0, 1, 2, 3, 4, 4]]


def does(table, order, column, spot):
    cell, below = table.cell(order[spot], column), table.cell(order[spot + 1], column)
    return "tied" if cell == below else "rises" if cell < below else "falls"


def naive_bars(table, order, spots):
    """[9], word by word."""
    if not any(order[spot] > order[spot + 1] for spot in spots):
        return False
    for column in range(table.width):
        told = [does(table, order, column, spot) for spot in spots]
        if not all(each == "tied" for each in told) and not ("rises" in told and "falls" in told):
            return False
    return True


def naive_usable(table, order):
    """All columns of all ways to choose one after the other, and the spots that a longest way leaves."""
    found, ends = set(), []
    every = [((), tuple(range(max(len(order) - 1, 0))))]
    while every:
        columns, left = every.pop()
        further = [column for column in range(table.width) if column not in columns
                   and len({does(table, order, column, spot) for spot in left} - {"tied"}) < 2]
        found.update(columns)
        if not further:
            ends.append(list(left))
        for column in further:
            every.append((columns + (column,),
                          tuple(spot for spot in left if does(table, order, column, spot) == "tied")))
    return sorted(found), ends


class BarringTest(unittest.TestCase):
    def test_examples(self):
        table = example_table()
        self.assertEqual(usable(table, [4, 1, 3, 0, 2]), [0, 1])
        self.assertIsNone(barring(table, [4, 1, 3, 0, 2]))
        self.assertEqual(barring(table=table, order=[3, 0, 1, 2, 4]), [0, 1, 2, 3])
        self.assertEqual(usable(table=table, order=[3, 0, 1, 2, 4]), [])
        self.assertIs(judge_barring(table, [3, 0, 1, 2, 4], [0, 1, 3]), True)
        self.assertIs(judge_barring(table=table, order=[3, 0, 1, 2, 4], spots=[1, 3]), False)
        self.assertEqual(least_barring(table=table, order=[3, 0, 1, 2, 4]), [0, 1, 3])
        self.assertIsNone(least_barring(table, [4, 1, 3, 0, 2]))

    def test_few_rows(self):
        for table in (empty_table(), Table(2, [[4, 5]])):
            order = list(range(len(table)))
            self.assertEqual((usable(table, order), barring(table, order), least_barring(table, order)),
                             ([0, 1], None, None))
            self.assertIs(judge_barring(table, order, []), False)
            self.assertIs(judge_barring(table, order, [0]), False)

    def test_equal_rows(self):
        table = equal_table(2, 3)
        self.assertEqual((usable(table, [0, 2, 1]), barring(table, [0, 2, 1])), ([0, 1], [0, 1]))
        self.assertEqual(least_barring(table, [0, 2, 1]), [1])
        self.assertIsNone(barring(table, [0, 1, 2]))

    def test_spots_in_any_order_and_more_than_once(self):
        table = example_table()
        for spots in ([3, 1, 0], [0, 3, 3, 1, 0, 0], [1, 0, 3, 1]):
            self.assertIs(judge_barring(table, [3, 0, 1, 2, 4], spots), True)
        self.assertIs(judge_barring(table, [3, 0, 1, 2, 4], []), False)

    def test_spots_that_there_are_not(self):
        table = example_table()
        for spots in ([0, 1, 3, 4], [0, 1, 3, -1], [-4, -3, -1], [0, 1, 3, 10 ** 59]):
            self.assertIs(judge_barring(table, [3, 0, 1, 2, 4], spots), False)
        self.assertIs(judge_barring(equal_table(1, 2), [1, 0], [1]), False)
        self.assertIs(judge_barring(equal_table(1, 2), [1, 0], [0, 1]), False)
        self.assertIs(judge_barring(equal_table(1, 2), [1, 0], [0]), True)

    def test_some_spots_bar_exactly_if_no_sorting_shows_the_order(self):
        tables = some_tables(1, number=12, most=4) + some_tables(2, number=30, most=4)
        for table in tables + some_tables(3, number=6, most=4):
            shown = [order_by(table, keys) for keys in all_sortings(table.width)]
            for told in itertools.permutations(range(len(table))):
                order = list(told)
                every = sublists(range(max(len(order) - 1, 0)))
                bars = [spots for spots in every if naive_bars(table, order, spots)]
                for spots in every:
                    self.assertEqual(judge_barring(table, order, spots[::-1]), spots in bars)
                self.assertEqual(bars == [], order in shown)
                self.assertEqual(least_barring(table, order), bars[0] if bars else None)
                left = barring(table, order)
                self.assertEqual(left is None, bars == [])
                if left is not None:
                    self.assertIn(left, bars)
                    self.assertTrue(all(set(spots) <= set(left) for spots in bars))

    def test_usable_against_all_ways_to_choose(self):
        chance = random.Random(9)
        for table in some_tables(3, number=60, most=6):
            order = list(range(len(table)))
            chance.shuffle(order)
            columns, ends = naive_usable(table, order)
            self.assertEqual(usable(table, order), columns)
            self.assertTrue(all(end == ends[0] for end in ends))
            descends = any(order[spot] > order[spot + 1] for spot in ends[0])
            self.assertEqual(barring(table, order), ends[0] if descends else None)

    def test_five_spots(self):
        for table in some_tables(2, number=20, most=6)[3:]:
            order = list(range(len(table)))[::-1]
            bars = [spots for spots in sublists(range(len(order) - 1)) if naive_bars(table, order, spots)]
            self.assertEqual(least_barring(table, order), bars[0] if bars else None)

    def test_at_the_limits(self):
        table = great_table()
        shown = order_by(table, [(3, -1), (0, 1), (1, 1)])
        self.assertIsNone(barring(table, shown))
        self.assertIn(3, usable(table, shown))
        order = shown[20:] + shown[:20]
        self.assertEqual(barring(table, order), list(range(39)))
        self.assertEqual(judge_barring(table, order, list(range(39)) + [0]), naive_bars(table, order, range(39)))
        falling = Table(5, [[row] * 5 for row in range(40)])
        self.assertEqual(usable(falling, list(range(39, -1, -1))), [0, 1, 2, 3, 4])

    def test_errors(self):
        table = example_table()
        for order in WRONG_ORDERS:
            for call in (usable, barring, least_barring):
                self.assertEqual(error_of(call, table, order), (InvalidOrder, order))
            self.assertEqual(error_of(judge_barring, table, order, [9]), (InvalidOrder, order))
