"""listwindow/patterns.py."""

import itertools
import unittest

from listwindow.errors import InvalidNumber, InvalidValue
from listwindow.patterns import count_copies, first_copy, nth_ranks, number_of_ranks, ranks_index
from listwindow.shapes import one_shape, ranked, ranks
from listwindow.tables import Table
from tests.support import empty_table, equal_table, error_of, example_table, great_table, small_tables, some_tables


def all_ranks(rows):
    return [list(told) for told in itertools.product(range(rows), repeat=rows)
            if sorted(set(told)) == list(range(len(set(told))))]


def naive_copies(table, pattern):
    return [list(rows) for rows in itertools.combinations(range(len(table)), len(pattern))
            if one_shape(table.picked(list(rows)), pattern)]


class RanksTest(unittest.TestCase):
    def test_numbers(self):
        self.assertEqual([number_of_ranks(rows) for rows in range(7)], [1, 1, 3, 13, 75, 541, 4683])
        self.assertEqual(number_of_ranks(rows=10), 102247563)

    def test_number_of_40(self):
        # How many ranks there are follows from how many rows have the least rank: some, at least one, of all.
        numbers = [1]
        for rows in range(1, 41):
            ways = 1
            number = 0
            for least in range(1, rows + 1):
                ways = ways * (rows - least + 1) // least
                number += ways * numbers[rows - least]
            numbers.append(number)
        self.assertEqual([number_of_ranks(rows) for rows in range(41)], numbers)

    def test_all_of_them_in_ascending_order(self):
        for rows in range(6):
            told = all_ranks(rows)
            self.assertEqual(len(told), number_of_ranks(rows))
            self.assertEqual([nth_ranks(rows, index) for index in range(len(told))], told)
            self.assertEqual([ranks_index(each) for each in told], list(range(len(told))))

    def test_ranks_of_no_rows(self):
        self.assertEqual((nth_ranks(0, 0), ranks_index([])), ([], 0))

    def test_ranks_of_40_rows(self):
        number = number_of_ranks(40)
        self.assertEqual(nth_ranks(40, 0), [0] * 40)
        self.assertEqual(nth_ranks(rows=40, index=number - 1), list(range(39, -1, -1)))
        self.assertEqual(ranks_index(ranks=list(range(39, -1, -1))), number - 1)
        for index in (1, number // 3, number // 2, number - 2, 10 ** 50):
            told = nth_ranks(40, index)
            self.assertEqual(sorted(set(told)), list(range(len(set(told)))))
            self.assertEqual(ranks_index(told), index)
        self.assertLess(nth_ranks(40, 10 ** 50), nth_ranks(40, 10 ** 50 + 1))
        table = great_table()
        self.assertEqual(nth_ranks(40, ranks_index(ranks(table, 3))), ranks(table, 3))

    def test_errors(self):
        self.assertEqual(error_of(number_of_ranks, -1), (InvalidNumber, -1))
        self.assertEqual(error_of(nth_ranks, -2, 0), (InvalidNumber, -2))
        self.assertEqual(error_of(nth_ranks, -2, -5), (InvalidNumber, -2))
        self.assertEqual(error_of(nth_ranks, 3, 13), (InvalidNumber, 13))
        self.assertEqual(error_of(nth_ranks, 3, -1), (InvalidNumber, -1))
        self.assertEqual(error_of(nth_ranks, 0, 1), (InvalidNumber, 1))
        self.assertEqual(error_of(nth_ranks, 40, 10 ** 60 - 1), (InvalidNumber, 10 ** 60 - 1))
        self.assertEqual(nth_ranks(3, 12), [2, 1, 0])

    def test_lists_that_are_no_ranks(self):
        for told in ([1], [0, 2], [1, 2, 1], [-1, 0], [-1], [0, 0, 3], [10 ** 59, 0], [0, 1, 3, 2, 5]):
            self.assertEqual(error_of(ranks_index, told), (InvalidValue, told))


class CopiesTest(unittest.TestCase):
    def test_copies(self):
        table = example_table()
        self.assertEqual(first_copy(table, Table(2, [[2, 1], [1, 1]])), [0, 3])
        self.assertEqual(count_copies(table, Table(2, [[2, 1], [1, 1]])), 3)
        self.assertIsNone(first_copy(table=table, pattern=Table(2, [[1, 1], [2, 2]])))
        self.assertEqual(count_copies(table=table, pattern=Table(2, [[1, 1], [2, 2]])), 0)

    def test_pattern_without_rows(self):
        for table in (example_table(), empty_table()):
            self.assertEqual((first_copy(table, empty_table()), count_copies(table, empty_table())), ([], 1))

    def test_pattern_with_more_rows_than_the_table(self):
        self.assertIsNone(first_copy(Table(1, [[1]]), Table(1, [[1], [1]])))
        self.assertEqual(count_copies(empty_table(), equal_table(2, 1)), 0)

    def test_pattern_of_one_row(self):
        self.assertEqual((first_copy(equal_table(2, 4), equal_table(2, 1)),
                          count_copies(equal_table(2, 4), Table(2, [[5, -5]]))), ([0], 4))

    def test_against_the_definition(self):
        patterns = list(small_tables(2, 2, 2)) + list(small_tables(2, 3, 2)) + list(small_tables(2, 1, 1))
        patterns.append(Table(2, [[1, 2], [3, 1], [2, 2]]))
        for table in some_tables(2, number=20, most=6):
            for pattern in patterns:
                copies = naive_copies(table, pattern)
                self.assertEqual(count_copies(table, pattern), len(copies))
                self.assertEqual(first_copy(table, pattern), copies[0] if copies else None)

    def test_at_the_limits(self):
        table = great_table(2)
        for pattern in (Table(2, [[1, 1], [1, 2], [2, 1]]), table.picked([37, 38, 39])):
            copies = naive_copies(table, pattern)
            self.assertEqual(count_copies(table, pattern), len(copies))
            self.assertEqual(first_copy(table, pattern), copies[0] if copies else None)
        self.assertEqual(count_copies(equal_table(5, 40), equal_table(5, 3)), 9880)
        self.assertIsNotNone(first_copy(great_table(), ranked(great_table().picked([37, 38, 39]))))

    def test_errors(self):
        for call in (first_copy, count_copies):
            self.assertEqual(error_of(call, example_table(), Table(3, [])), (InvalidNumber, 3))
            self.assertEqual(error_of(call, Table(3, []), Table(1, [[1]])), (InvalidNumber, 1))
