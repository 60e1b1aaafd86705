"""[11] and listwindow/closures.py."""

import itertools
import random
import unittest

from listwindow.closures import (can_be_shown, changes, closed_sets, closure, fewest_columns, first_guest, least_rows,
                                 tight)
from listwindow.errors import InvalidFilters, InvalidRow, InvalidRows
from listwindow.filters import open_filters, within
from listwindow.tables import Table
from tests.support import (empty_table, equal_table, error_of, example_table, great_table, many_filters, shown_by,
                           small_tables, some_tables, sublists)

OPEN = (None, None)


def naive_tight(table, rows):
    return [(min(table.cell(row, column) for row in rows), max(table.cell(row, column) for row in rows))
            for column in range(table.width)]


def naive_closure(table, rows):
    return shown_by(table, naive_tight(table, rows)) if rows else []


def all_filters(table):
    """Filters that part the rows of a table in all ways that there are."""
    return [list(told) for told in itertools.product(*[many_filters(table.column(at)) for at in range(table.width)])]


class TightTest(unittest.TestCase):
    def test_tight(self):
        self.assertEqual(tight(example_table(), [1, 3]), [(1, 2), (1, 2)])
        self.assertEqual(tight(table=example_table(), rows=[2]), [(3, 3), (2, 2)])
        self.assertEqual(tight(great_table(), [30, 2, 17]), naive_tight(great_table(), [30, 2, 17]))

    def test_errors(self):
        self.assertEqual(error_of(tight, example_table(), [0, 0, 7, -1]), (InvalidRow, 7))
        self.assertEqual(error_of(tight, example_table(), [-1, 7]), (InvalidRow, -1))
        self.assertEqual(error_of(tight, example_table(), [2, 0, 2]), (InvalidRows, [2, 0, 2]))
        self.assertEqual(error_of(tight, example_table(), []), (InvalidRows, []))
        self.assertEqual(error_of(tight, empty_table(), []), (InvalidRows, []))


class ClosureTest(unittest.TestCase):
    def test_examples(self):
        table = example_table()
        self.assertEqual(closure(table, [1, 3]), [1, 3, 4])
        self.assertEqual(closure(table=table, rows=[2, 0]), [0, 2])
        self.assertEqual((closure(table, []), closure(empty_table(), [])), ([], []))
        self.assertEqual(closure(equal_table(1, 3), [1]), [0, 1, 2])
        self.assertIs(can_be_shown(table, [1, 3]), False)
        self.assertIs(can_be_shown(table=table, rows=[2, 0]), True)
        self.assertIs(can_be_shown(table, []), True)
        self.assertIs(can_be_shown(empty_table(), []), True)
        self.assertEqual(first_guest(table=table, rows=[1, 3]), 4)
        self.assertIsNone(first_guest(table, []))
        self.assertIsNone(first_guest(table, [3, 4, 1]))

    def test_rows_of_all_sorts(self):
        for table in list(small_tables(2, 3, 2)) + some_tables(2, number=20) + some_tables(3, number=5):
            for rows in sublists(range(len(table))):
                told = naive_closure(table, rows)
                self.assertEqual(closure(table, rows[::-1]), told)
                self.assertEqual(can_be_shown(table, rows[::-1]), told == rows)
                guests = [row for row in told if row not in rows]
                self.assertEqual(first_guest(table, rows), guests[0] if guests else None)

    def test_some_filters_show_just_them_exactly_if_they_are_their_own_closure(self):
        for table in list(small_tables(2, 3, 2))[::5] + some_tables(1) + some_tables(2, number=4, most=4):
            shown = [shown_by(table, filters) for filters in all_filters(table)]
            for rows in sublists(range(len(table))):
                self.assertEqual(can_be_shown(table, rows), rows in shown)
                let = [told for told in shown if set(rows) <= set(told)]
                if rows:
                    self.assertEqual(closure(table, rows),
                                     [row for row in range(len(table)) if all(row in told for told in let)])

    def test_at_the_limits(self):
        table = great_table()
        for rows in ([], [39], [0, 39, 7], list(range(40))):
            self.assertEqual(closure(table, rows), naive_closure(table, rows))
        self.assertIs(can_be_shown(table, list(range(39, -1, -1))), True)

    def test_errors(self):
        table = example_table()
        for call in (closure, can_be_shown, first_guest, fewest_columns, least_rows):
            self.assertEqual(error_of(call, table, [0, 0, 5, -1]), (InvalidRow, 5))
            self.assertEqual(error_of(call, table, [0, -1, 5]), (InvalidRow, -1))
            self.assertEqual(error_of(call, table, [3, 1, 3]), (InvalidRows, [3, 1, 3]))


class FewestColumnsTest(unittest.TestCase):
    def test_examples(self):
        table = example_table()
        self.assertEqual(fewest_columns(table, [0, 2]), [0])
        self.assertIsNone(fewest_columns(table, [1, 3]))
        self.assertEqual(fewest_columns(table=table, rows=[4, 3, 2, 1, 0]), [])
        self.assertEqual(fewest_columns(table, [1]), [0, 1])
        self.assertEqual(fewest_columns(table, []), [0])
        self.assertEqual(fewest_columns(empty_table(), []), [])

    def test_against_all_filters(self):
        for table in some_tables(2, number=8, most=4):
            every = all_filters(table)
            for rows in sublists(range(len(table))):
                found = [columns for columns in sublists(range(2))
                         if any(shown_by(table, filters) == rows for filters in every
                                if all(filters[at] == OPEN for at in range(2) if at not in columns))]
                self.assertEqual(fewest_columns(table, rows[::-1]), found[0] if found else None)

    def test_at_the_limits(self):
        table = great_table()
        self.assertEqual(fewest_columns(table, list(range(40))), [])
        rows = shown_by(table, [OPEN, OPEN, OPEN, (0, None), OPEN])
        self.assertEqual(fewest_columns(table, rows), [3])


class ChangesTest(unittest.TestCase):
    def test_examples(self):
        table = example_table()
        self.assertEqual(changes(table, [(1, 1), OPEN], [0, 2]), ([0], [(3, 3), OPEN]))
        self.assertEqual(changes(table, [(3, None), OPEN], [0, 2]), ([], [(3, None), OPEN]))
        self.assertEqual(changes(table=table, filters=[OPEN, (1, 1)], rows=[1]), ([0, 1], [(1, 1), (2, 2)]))
        self.assertIsNone(changes(table, [OPEN, OPEN], [1, 3]))

    def test_no_rows(self):
        self.assertEqual(changes(example_table(), [OPEN, (1, 1)], []), ([0], [(1, 0), (1, 1)]))
        self.assertEqual(changes(example_table(), [OPEN, (5, 4)], []), ([], [OPEN, (5, 4)]))
        self.assertEqual(changes(empty_table(), [OPEN, (1, 1)], []), ([], [OPEN, (1, 1)]))

    def test_against_all_filters(self):
        chance = random.Random(3)
        for table in some_tables(2, number=8, most=4):
            every = all_filters(table)
            for given in [open_filters(2)] + [chance.choice(every) for _ in range(6)]:
                for rows in sublists(range(len(table))):
                    found = [columns for columns in sublists(range(2))
                             if any(shown_by(table, filters) == rows for filters in every
                                    if all(filters[at] == given[at] for at in range(2) if at not in columns))]
                    told = changes(table, given, rows[::-1])
                    if not found:
                        self.assertIsNone(told)
                        continue
                    narrow = naive_tight(table, rows) if rows else [(1, 0)] * 2
                    self.assertEqual(told, (found[0], [narrow[at] if at in found[0] else given[at]
                                                       for at in range(2)]))
                    self.assertEqual(shown_by(table, told[1]), rows)

    def test_errors(self):
        table = example_table()
        self.assertEqual(error_of(changes, table, [OPEN], [9, 9]), (InvalidFilters, 1))
        self.assertEqual(error_of(changes, table, [], [9, 9]), (InvalidFilters, 0))
        self.assertEqual(error_of(changes, table, [OPEN] * 2, [0, 0, 9, -1]), (InvalidRow, 9))
        self.assertEqual(error_of(changes, table, [OPEN] * 2, [0, -1]), (InvalidRow, -1))
        self.assertEqual(error_of(changes, table, [OPEN] * 2, [0, 0]), (InvalidRows, [0, 0]))

    def test_at_the_limits(self):
        table = great_table()
        rows = shown_by(table, [OPEN, (0, None), OPEN, (0, None), OPEN])
        columns, filters = changes(table, [OPEN, (0, None), OPEN, OPEN, OPEN], rows)
        self.assertEqual((columns, shown_by(table, filters)), ([3], rows))
        self.assertTrue(within([filters[3]], [(0, None)]))


class ClosedSetsTest(unittest.TestCase):
    def test_closed_sets(self):
        self.assertEqual(closed_sets(Table(1, [[1], [1], [2]])), [[], [2], [0, 1], [0, 1, 2]])
        self.assertEqual(closed_sets(table=empty_table()), [[]])
        self.assertEqual(closed_sets(equal_table(2, 2)), [[], [0, 1]])

    def test_against_the_definition(self):
        for table in some_tables(1, most=6) + some_tables(2, most=6) + some_tables(5, number=5, most=6):
            self.assertEqual(closed_sets(table), [rows for rows in sublists(range(len(table)))
                                                  if naive_closure(table, rows) == rows])


class LeastRowsTest(unittest.TestCase):
    def test_examples(self):
        self.assertEqual(least_rows(example_table(), [1, 3, 4]), [1, 3])
        self.assertEqual(least_rows(table=example_table(), rows=[]), [])
        self.assertEqual(least_rows(equal_table(1, 3), [2, 1]), [1])

    def test_against_the_definition(self):
        for table in some_tables(2, most=6) + some_tables(3, number=8, most=6):
            for rows in sublists(range(len(table))):
                least = [part for part in sublists(rows)
                         if naive_closure(table, part) == naive_closure(table, rows)][0]
                self.assertEqual(least_rows(table, rows[::-1]), least)
