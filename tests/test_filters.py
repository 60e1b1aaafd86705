"""[10] and listwindow/filters.py."""

import itertools
import random
import unittest

from listwindow.errors import InvalidColumn, InvalidFilters, InvalidNumber, InvalidRow
from listwindow.filters import barred_by, clash, last_only, let_rows, met, open_filters, part, with_only, within
from listwindow.tables import Table
from tests.support import (empty_table, equal_table, error_of, example_table, great_table, lets, many_filters,
                           shown_by, some_tables)

BOUNDS = many_filters([1, 3])


def random_filters(chance, width):
    return [chance.choice(many_filters([0, 1, 2])) for _ in range(width)]


def clash_by_definition(several):
    integers = range(-2, 8)
    for column in range(len(several[0]) if several else 0):
        for one in range(len(several)):
            for other in range(one, len(several)):
                if not any(lets(several[one][column], cell) and lets(several[other][column], cell)
                           for cell in integers):
                    return (column, one, other)
    return None


class OpenFiltersTest(unittest.TestCase):
    def test_open_filters(self):
        self.assertEqual(open_filters(1), [(None, None)])
        self.assertEqual(open_filters(width=5), [(None, None)] * 5)

    def test_errors(self):
        self.assertEqual(error_of(open_filters, 0), (InvalidNumber, 0))
        self.assertEqual(error_of(open_filters, -7), (InvalidNumber, -7))

    def test_they_show_all(self):
        self.assertEqual(let_rows(example_table(), open_filters(2)), [0, 1, 2, 3, 4])


class LetRowsTest(unittest.TestCase):
    def test_let_rows(self):
        table = example_table()
        self.assertEqual(let_rows(table, [(2, None), (None, 1)]), [0, 3])
        self.assertEqual(let_rows(table=table, filters=[(1, 1), (None, None)]), [1, 4])
        self.assertEqual(let_rows(table, [(2, 2), (2, 2)]), [])
        self.assertEqual(let_rows(table, [(None, None), (2, 1)]), [])
        self.assertEqual(let_rows(empty_table(), [(1, 0), (None, 4)]), [])
        self.assertEqual(let_rows(equal_table(1, 3), [(7, 7)]), [0, 1, 2])

    def test_against_the_definition(self):
        chance = random.Random(5)
        for table in some_tables(2):
            for _ in range(30):
                filters = random_filters(chance, 2)
                shown = shown_by(table, filters)
                self.assertEqual(let_rows(table, filters), shown)
                picked, rows = part(table, filters)
                self.assertEqual((picked, rows), (table.picked(shown), shown))
                for row in range(len(table)):
                    barring = [at for at in range(2) if not lets(filters[at], table.cell(row, at))]
                    self.assertEqual(barred_by(table, filters, row), barring)
                    self.assertEqual(row in shown, barring == [])

    def test_great_cells(self):
        table = great_table(1)
        cell = table.cell(7, 0)
        for filters in ([(cell, None)], [(None, cell)], [(cell, cell)], [(cell + 1, None)], [(None, cell - 1)]):
            self.assertEqual(let_rows(table, filters), shown_by(table, filters))

    def test_errors(self):
        for call in (let_rows, part):
            self.assertEqual(error_of(call, example_table(), [(1, 1)]), (InvalidFilters, 1))
            self.assertEqual(error_of(call, example_table(), []), (InvalidFilters, 0))
            self.assertEqual(error_of(call, empty_table(), [(1, 1)] * 3), (InvalidFilters, 3))


class BarredByTest(unittest.TestCase):
    def test_barred_by(self):
        table = example_table()
        self.assertEqual(barred_by(table, [(2, 2), (1, 1)], 1), [0, 1])
        self.assertEqual(barred_by(table=table, filters=[(2, 2), (1, 1)], row=3), [])
        self.assertEqual(barred_by(table, [(None, None), (9, None)], 0), [1])

    def test_errors(self):
        table = example_table()
        self.assertEqual(error_of(barred_by, table, open_filters(2), 5), (InvalidRow, 5))
        self.assertEqual(error_of(barred_by, table, open_filters(2), -1), (InvalidRow, -1))
        self.assertEqual(error_of(barred_by, table, open_filters(3), 5), (InvalidFilters, 3))


class PartTest(unittest.TestCase):
    def test_part(self):
        table, rows = part(example_table(), [(2, None), (None, None)])
        self.assertEqual((table.rows, rows), ([[3, 1], [3, 2], [2, 1]], [0, 2, 3]))
        table, rows = part(table=example_table(), filters=[(1, 0), (None, None)])
        self.assertEqual((table, rows), (empty_table(), []))


class WithOnlyTest(unittest.TestCase):
    def test_with_only(self):
        self.assertEqual(with_only(open_filters(2), [("only", 1, 0, 5), ("only", 1, 2, 2)]), [(None, None), (2, 2)])
        self.assertEqual(with_only(filters=[(1, 2)], deeds=[("only", 0, None, None)]), [(None, None)])
        self.assertEqual(with_only([(1, 2), (5, None)], []), [(1, 2), (5, None)])
        self.assertEqual(with_only([(1, 2)], [("only", 0, 9, 3)]), [(9, 3)])
        self.assertEqual(with_only([], []), [])

    def test_errors(self):
        deeds = [("only", 1, 0, 0), ("only", 2, 0, 0), ("only", -1, 0, 0)]
        self.assertEqual(error_of(with_only, open_filters(2), deeds), (InvalidColumn, 2))
        self.assertEqual(error_of(with_only, open_filters(2), deeds[::-1]), (InvalidColumn, -1))
        self.assertEqual(error_of(with_only, [], [("only", 0, None, None)]), (InvalidColumn, 0))

    def test_a_refused_call_changes_nothing(self):
        filters = open_filters(2)
        error_of(with_only, filters, [("only", 0, 1, 1), ("only", 2, 0, 0)])
        self.assertEqual(filters, [(None, None), (None, None)])


class LastOnlyTest(unittest.TestCase):
    def test_last_only(self):
        deeds = [("only", 1, 0, 5), ("only", 0, 1, 1), ("only", 1, 2, 2)]
        self.assertEqual(last_only(deeds), [("only", 0, 1, 1), ("only", 1, 2, 2)])
        self.assertEqual(last_only(deeds=[("only", 4, 1, 1), ("only", 4, None, None)]), [("only", 4, None, None)])
        self.assertEqual(last_only([]), [])
        self.assertEqual(last_only([("only", 59, 1, None)] * 60), [("only", 59, 1, None)])

    def test_errors(self):
        self.assertEqual(error_of(last_only, [("only", 3, 1, 1), ("only", -2, 1, 1), ("only", -1, 1, 1)]),
                         (InvalidColumn, -2))

    def test_it_is_the_shortest_list_that_does_the_same(self):
        deeds = [("only", column, low, None) for column in range(2) for low in (None, 1)]
        lists = [list(told) for number in range(4) for told in itertools.product(deeds, repeat=number)]
        several = [list(filters) for filters in itertools.product([(None, None), (1, None), (0, 0)], repeat=2)]
        done = [[with_only(filters, told) for filters in several] for told in lists]
        for one, told in zip(lists, done):
            short = last_only(one)
            self.assertEqual([with_only(filters, short) for filters in several], told)
            self.assertEqual(len(short), min(len(other) for other, its in zip(lists, done) if its == told))
            for other, its in zip(lists, done):
                self.assertEqual(short == last_only(other), told == its)


class MetTest(unittest.TestCase):
    def test_met(self):
        self.assertEqual(met([(1, None), (None, None)], [(0, 4), (2, 3)]), [(1, 4), (2, 3)])
        self.assertEqual(met(one=[(0, 4)], other=[(1, 9)]), [(1, 4)])
        self.assertEqual(met([(0, 1)], [(2, 3)]), [(2, 1)])
        self.assertEqual(met([(5, 1)], [(None, None)]), [(5, 1)])
        self.assertEqual(met([], []), [])

    def test_lets_just_the_rows_that_both_let(self):
        for one, other in itertools.product(BOUNDS, repeat=2):
            both = met([one], [other])[0]
            for cell in range(-3, 9):
                self.assertEqual(lets(both, cell), lets(one, cell) and lets(other, cell))
            self.assertEqual(met([other], [one]), [both])

    def test_within_against_the_definition(self):
        for one, other in itertools.product(BOUNDS, repeat=2):
            inside = all(lets(other, cell) for cell in range(-30, 30) if lets(one, cell))
            self.assertEqual(within([one], [other]), inside, (one, other))

    def test_within(self):
        self.assertTrue(within([(1, 2)], [(None, 2)]))
        self.assertTrue(within([(2, 1), (None, None)], [(0, 0), (5, 5)]))
        self.assertTrue(within([(None, None), (2, 1)], [(0, 0), (5, 5)]))
        self.assertFalse(within(one=[(1, 2), (None, None)], other=[(None, 2), (None, 9)]))
        self.assertFalse(within([(1, 2), (1, 2)], [(2, 1), (1, 2)]))
        self.assertTrue(within([], []))
        self.assertTrue(within([(-10 ** 59, 10 ** 59)], [(-10 ** 59, None)]))

    def test_errors(self):
        for call in (met, within):
            self.assertEqual(error_of(call, [(1, 1)], []), (InvalidFilters, 0))
            self.assertEqual(error_of(call, [], [(1, 1)]), (InvalidFilters, 1))
            self.assertEqual(error_of(call, [(2, 1)], [(1, 1)] * 3), (InvalidFilters, 3))


class ClashTest(unittest.TestCase):
    def test_clash(self):
        self.assertEqual(clash([[(1, 3)], [(2, None)], [(None, 1)]]), (0, 1, 2))
        self.assertIsNone(clash(several=[[(1, 3)], [(2, None)], [(None, 2)]]))
        self.assertEqual(clash([[(4, 3)]]), (0, 0, 0))
        self.assertEqual(clash([[(None, None)], [(4, 3)]]), (0, 0, 1))
        self.assertEqual(clash([[(1, 1), (2, 1)], [(2, 2), (1, 1)]]), (0, 0, 1))
        self.assertEqual(clash([[(1, 1), (None, None)], [(1, 2), (5, 4)]]), (1, 0, 1))

    def test_of_none_and_of_no_columns(self):
        self.assertIsNone(clash([]))
        self.assertIsNone(clash([[]]))
        self.assertIsNone(clash([[], []]))

    def test_against_the_definition(self):
        chance = random.Random(2)
        for _ in range(400):
            width = chance.randrange(1, 3)
            several = [[chance.choice(BOUNDS) for _ in range(width)] for _ in range(chance.randrange(4))]
            self.assertEqual(clash(several), clash_by_definition(several))

    def test_none_exactly_if_some_row_is_let_by_all(self):
        chance = random.Random(4)
        for _ in range(200):
            several = [[chance.choice(BOUNDS) for _ in range(2)] for _ in range(3)]
            rows = [list(cells) for cells in itertools.product(range(-1, 6), repeat=2)]
            table = Table(2, rows)
            let = [row for row in range(len(rows)) if all(row in shown_by(table, filters) for filters in several)]
            self.assertEqual(clash(several) is None, let != [])

    def test_40_filters(self):
        several = [[(index, None)] * 5 for index in range(39)]
        self.assertIsNone(clash(several + [[(None, 38)] * 5]))
        self.assertEqual(clash(several + [[(None, 38)] * 4 + [(None, 37)]]), (4, 38, 39))

    def test_errors(self):
        self.assertEqual(error_of(clash, [[(1, 1)], [(1, 1)], [], [(1, 1)] * 2]), (InvalidFilters, 0))
        self.assertEqual(error_of(clash, [[], [(2, 1)]]), (InvalidFilters, 1))
        self.assertEqual(error_of(clash, [[(2, 1)], [(1, 1)] * 2]), (InvalidFilters, 2))
