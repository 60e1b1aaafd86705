"""[6], [7] and listwindow/sortings.py."""

import itertools
import unittest

from listwindow.errors import InvalidColumn, InvalidNumber, InvalidRow, InvalidSorting
from listwindow.sortings import clicked, is_sorting, order_of, pairs_apart, place_in, sortings, turned, without_ties
from listwindow.tables import Table
from tests.support import (all_sortings, by_clicks, click_all, click_lists, empty_table, equal_table, error_of,
                           example_table, great_table, order_by, some_tables)

# None of these is a sorting of two columns; the first two are sortings of more columns.
WRONG = [[(2, 1)], [(0, 1), (5, -1)], [(0, 1), (0, -1)], [(1, 1), (1, 1)], [(0, 0)], [(0, 2)], [(0, -2)], [(-1, 1)],
         [(0, 1), (1, 10 ** 59)], [(10 ** 59, 1)], [(0, 1), (1, 1), (0, 1)]]


class IsSortingTest(unittest.TestCase):
    def test_all_sortings_are(self):
        for width in (1, 2, 3):
            for keys in all_sortings(width):
                self.assertTrue(is_sorting(width, keys))
                self.assertEqual(is_sorting(1, keys), all(column == 0 for column, sign in keys))

    def test_no_others_are(self):
        for keys in WRONG:
            self.assertIs(is_sorting(width=2, sorting=keys), False)
        self.assertIs(is_sorting(6, [(0, 1), (5, -1)]), True)

    def test_all_lists_of_small_keys(self):
        keys = [(column, sign) for column in (-1, 0, 1, 2) for sign in (-2, -1, 0, 1)]
        for number in range(4):
            for told in itertools.product(keys, repeat=number):
                self.assertEqual(is_sorting(2, list(told)), list(told) in all_sortings(2))

    def test_errors(self):
        self.assertEqual(error_of(is_sorting, 0, []), (InvalidNumber, 0))
        self.assertEqual(error_of(is_sorting, -1, [(0, 5)]), (InvalidNumber, -1))


class SortingsTest(unittest.TestCase):
    def test_sortings(self):
        self.assertEqual(sortings(1), [[], [(0, -1)], [(0, 1)]])
        for width in (1, 2, 3):
            self.assertEqual(sortings(width=width), all_sortings(width))
        self.assertEqual([len(sortings(width)) for width in (1, 2, 3)], [3, 13, 79])

    def test_errors(self):
        self.assertEqual(error_of(sortings, 0), (InvalidNumber, 0))
        self.assertEqual(error_of(sortings, -4), (InvalidNumber, -4))


class ClickedTest(unittest.TestCase):
    def test_clicked(self):
        self.assertEqual(clicked(2, [], [0, 1, 1]), [(1, -1), (0, 1)])
        self.assertEqual(clicked(2, [(0, 1)], [0]), [(0, -1)])
        self.assertEqual(clicked(2, [(0, -1)], [0]), [(0, 1)])
        self.assertEqual(clicked(width=3, sorting=[(2, -1), (0, -1)], clicks=[0]), [(0, 1), (2, -1)])
        self.assertEqual(clicked(3, [(2, -1), (0, -1)], []), [(2, -1), (0, -1)])

    def test_against_the_definition(self):
        for keys in all_sortings(2):
            for clicks in click_lists(2, 5):
                self.assertEqual(clicked(2, keys, clicks), click_all(keys, clicks))

    def test_every_sorting_comes_about(self):
        for keys in all_sortings(3):
            clicks = [column for column, sign in keys[::-1] for _ in range(1 if sign == 1 else 2)]
            self.assertEqual(clicked(3, [], clicks), keys)

    def test_60_clicks_on_5_columns(self):
        clicks = [index * index % 5 for index in range(60)]
        self.assertEqual(clicked(5, [(4, -1)], clicks), click_all([(4, -1)], clicks))

    def test_errors(self):
        self.assertEqual(error_of(clicked, 0, [(9, 9)], [7]), (InvalidNumber, 0))
        self.assertEqual(error_of(clicked, 2, [], [0, 2, -1]), (InvalidColumn, 2))
        self.assertEqual(error_of(clicked, 2, [], [0, -1, 2]), (InvalidColumn, -1))
        for keys in WRONG:
            self.assertEqual(error_of(clicked, 2, keys, [7]), (InvalidSorting, keys))


class OrderTest(unittest.TestCase):
    def test_order_of(self):
        table = example_table()
        self.assertEqual(order_of(table, [(0, 1)]), [1, 4, 3, 0, 2])
        self.assertEqual(order_of(table, [(0, -1)]), [0, 2, 3, 1, 4])
        self.assertEqual(order_of(table, [(1, 1), (0, 1)]), [4, 3, 0, 1, 2])
        self.assertEqual(order_of(table=table, sorting=[]), [0, 1, 2, 3, 4])
        self.assertEqual(order_of(empty_table(), [(1, -1)]), [])
        self.assertEqual(order_of(equal_table(), [(1, -1), (0, 1)]), [0, 1, 2, 3])

    def test_against_the_definition(self):
        for width in (1, 2, 3):
            for table in some_tables(width, number=12):
                for keys in all_sortings(width):
                    self.assertEqual(order_of(table, keys), order_by(table, keys))

    def test_the_order_shown_is_always_that_of_the_sorting(self):
        for table in some_tables(2, number=10):
            for clicks in click_lists(2, 6):
                order, _ = by_clicks(table, list(range(len(table))), None, clicks)
                self.assertEqual(order_of(table, clicked(2, [], clicks)), order)

    def test_at_the_limits(self):
        table = great_table()
        keys = [(3, -1), (0, 1), (4, 1), (1, -1), (2, 1)]
        self.assertEqual(order_of(table, keys), order_by(table, keys))
        self.assertEqual(order_of(table, keys[1:2]), order_by(table, keys[1:2]))

    def test_tables_made_of_others(self):
        one, other = Table(2, [[1, 2], [1, 1]]), Table(2, [[1, 0], [0, 3]])
        for keys in all_sortings(2):
            made = [one + other, one.with_row([1, 0]), (one + other).without_row(1), one.with_cell(0, 1, -4),
                    (one + other).picked([3, 3, 0, 1])]
            for table in made:
                self.assertEqual(order_of(table, keys), order_of(Table(2, table.rows), keys))
                self.assertEqual(order_of(table, keys), order_by(Table(2, table.rows), keys))

    def test_errors(self):
        for keys in WRONG:
            self.assertEqual(error_of(order_of, example_table(), keys), (InvalidSorting, keys))
            self.assertEqual(error_of(order_of, empty_table(), keys), (InvalidSorting, keys))


class TurnedTest(unittest.TestCase):
    def test_turned(self):
        self.assertEqual(turned([(0, 1), (1, -1)]), [(0, -1), (1, 1)])
        self.assertEqual(turned(sorting=[(59, -1), (3, -1)]), [(59, 1), (3, 1)])
        self.assertEqual(turned([]), [])

    def test_60_keys(self):
        keys = [(column, 1 if column % 3 else -1) for column in range(60)]
        self.assertEqual(turned(keys), [(column, -sign) for column, sign in keys])
        self.assertEqual(turned(turned(keys)), keys)

    def test_errors(self):
        for keys in WRONG[2:9] + WRONG[-1:]:
            self.assertEqual(error_of(turned, keys), (InvalidSorting, keys))
        for keys in WRONG[:2]:
            self.assertIsNone(error_of(turned, keys))


class WithoutTiesTest(unittest.TestCase):
    def test_without_ties(self):
        self.assertEqual(without_ties(Table(2, [[1, 1], [1, 2]]), [(0, 1), (1, -1)]), [(1, -1)])
        self.assertEqual(without_ties(table=example_table(), sorting=[(0, 1), (1, 1)]), [(0, 1), (1, 1)])
        self.assertEqual(without_ties(Table(2, [[1, 1], [2, 0]]), [(0, 1), (1, -1)]), [(0, 1)])
        self.assertEqual(without_ties(empty_table(), [(0, 1), (1, -1)]), [])
        self.assertEqual(without_ties(equal_table(), [(0, 1)]), [])
        self.assertEqual(without_ties(example_table(), []), [])

    def test_against_the_definition(self):
        for table in some_tables(3):
            rows = table.rows
            for keys in all_sortings(3):
                kept = []
                for at, (column, sign) in enumerate(keys):
                    before = [other for other, _ in keys[:at]]
                    if any(one[column] != other[column] for one in rows for other in rows
                           if all(one[told] == other[told] for told in before)):
                        kept.append((column, sign))
                self.assertEqual(without_ties(table, keys), kept)
                self.assertEqual(order_by(table, kept), order_by(table, keys))

    def test_at_the_limits(self):
        table = great_table()
        keys = [(column, -1) for column in range(5)]
        kept = without_ties(table, keys)
        self.assertEqual(order_by(table, kept), order_by(table, keys))
        self.assertEqual(kept, keys[:len(kept)])

    def test_errors(self):
        for keys in WRONG:
            self.assertEqual(error_of(without_ties, example_table(), keys), (InvalidSorting, keys))


class PlaceInTest(unittest.TestCase):
    def test_place_in(self):
        table = example_table()
        self.assertEqual(place_in(table, [(0, 1)], [2, 9]), 3)
        self.assertEqual(place_in(table, [], [0, 0]), 5)
        self.assertEqual(place_in(table=table, sorting=[(0, -1)], cells=[9, 9]), 0)
        self.assertEqual(place_in(empty_table(), [(0, -1)], [9, 9]), 0)
        self.assertEqual(place_in(equal_table(2, 3), [(0, -1)], [7, 7]), 3)

    def test_against_the_definition(self):
        for table in some_tables(2):
            for keys in all_sortings(2):
                for cells in itertools.product(range(-1, 4), repeat=2):
                    longer = table.with_row(list(cells))
                    self.assertEqual(place_in(table, keys, list(cells)), order_by(longer, keys).index(len(table)))

    def test_at_the_limits(self):
        table = great_table()
        cells = table.rows[11]
        longer = table.with_row(cells)
        for keys in ([(2, 1), (4, -1)], [(0, -1)]):
            self.assertEqual(place_in(table, keys, cells), order_by(longer, keys).index(40))

    def test_errors(self):
        table = example_table()
        self.assertEqual(error_of(place_in, table, [], [1]), (InvalidRow, 1))
        self.assertEqual(error_of(place_in, table, [(0, 1)], [1, 2, 3]), (InvalidRow, 3))
        self.assertEqual(error_of(place_in, table, [(0, 1)], []), (InvalidRow, 0))
        for keys in WRONG:
            self.assertEqual(error_of(place_in, table, keys, [1]), (InvalidSorting, keys))


class PairsApartTest(unittest.TestCase):
    def test_pairs_apart(self):
        table = example_table()
        self.assertEqual(pairs_apart(table, [], [(0, 1)]), [(0, 1), (0, 3), (0, 4), (2, 3), (2, 4), (3, 4)])
        self.assertEqual(pairs_apart(table=table, one=[(0, 1)], other=[(0, 1)]), [])
        self.assertEqual(pairs_apart(empty_table(), [(0, 1)], [(0, -1)]), [])
        self.assertEqual(pairs_apart(equal_table(), [(0, 1)], [(0, -1)]), [])

    def test_against_the_definition(self):
        for table in some_tables(2, number=12):
            for one in all_sortings(2):
                for other in all_sortings(2):
                    mine, its = order_by(table, one), order_by(table, other)
                    apart = [(low, high) for low in range(len(table)) for high in range(low + 1, len(table))
                             if (mine.index(low) < mine.index(high)) != (its.index(low) < its.index(high))]
                    self.assertEqual(pairs_apart(table, one, other), apart)

    def test_at_the_limits(self):
        table = Table(5, [[row] * 5 for row in range(40)])
        self.assertEqual(pairs_apart(table, [(4, 1)], [(0, -1), (1, 1)]), list(itertools.combinations(range(40), 2)))

    def test_errors(self):
        for keys in WRONG:
            self.assertEqual(error_of(pairs_apart, example_table(), keys, [(8, 8)]), (InvalidSorting, keys))
            self.assertEqual(error_of(pairs_apart, example_table(), [(0, 1)], keys), (InvalidSorting, keys))
