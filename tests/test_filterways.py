"""[10] to [16] and listwindow/filterways.py."""

import itertools
import random
import unittest

from listwindow.closures import tight
from listwindow.errors import InvalidFilters, InvalidMarks, InvalidPosition, InvalidSorting
from listwindow.filters import open_filters
from listwindow.filterways import by_filters, cheapest_filters, filter_for, folds_for_marks, stretch_of
from listwindow.marks import cost
from listwindow.markways import cheapest_clicks
from listwindow.tables import Table
from listwindow.views import View
from tests.support import (all_lists, all_sortings, empty_table, equal_table, error_of, example_table, great_table,
                           mark_all, many_filters, order_by, random_table, shown_by, some_tables, sublists)
from tests.test_folding import group_deeds_on, some_views

OPEN = (None, None)


def example_view(folded=(1,)):
    return View(example_table(), [(0, 1)], [OPEN, OPEN], [list(folded), []])


def shown_in_order(table, sorting, filters):
    return [row for row in order_by(table, sorting) if row in shown_by(table, filters)]


class CheapestFiltersTest(unittest.TestCase):
    def test_examples(self):
        table = Table(1, [[1], [2]] * 4)
        self.assertEqual(cheapest_filters(table, [], [0, 2, 4, 6]), (3, [0], [("click", 0), ("range", 3)]))
        self.assertEqual(cheapest_filters(table=table, sorting=[], marks=[]), (0, [], []))
        self.assertEqual(cheapest_filters(empty_table(), [(0, 1)], []), (0, [], []))
        self.assertEqual(cheapest_filters(table, [(0, 1)], [0, 2, 4, 6]), (2, [], [("click", 0), ("range", 3)]))
        self.assertEqual(cheapest_filters(equal_table(2), [], [1, 3]), (2, [], [("click", 1), ("click", 3)]))

    def test_against_all_columns(self):
        chance = random.Random(1)
        for table in some_tables(2, number=6) + [random_table(chance, 3, 8, 2) for _ in range(6)]:
            for start in chance.sample(all_sortings(table.width), 3):
                marks = sorted(chance.sample(range(len(table)), chance.randrange(len(table) + 1)))
                told = cheapest_filters(table, start, marks)
                if not marks:
                    self.assertEqual(told, (0, [], []))
                    continue
                every = []
                for columns in sublists(range(table.width)):
                    filters = [bounds if at in columns else OPEN for at, bounds in enumerate(tight(table, marks))]
                    there = shown_in_order(table, start, filters)
                    every.append((len(columns) + cost(there, marks), len(columns), columns, cheapest_clicks(there, marks)))
                number, _, columns, clicks = min(every)
                self.assertEqual(told, (number, columns, clicks))

    def test_no_other_filters_make_it_cheaper(self):
        chance = random.Random(2)
        for table in [random_table(chance, 2, 6, 3) for _ in range(6)]:
            every = [list(told) for told in itertools.product(*[many_filters(table.column(at)) for at in range(2)])]
            for marks in sublists(range(6))[3::9]:
                fewest = min(sum(bounds != OPEN for bounds in filters) + cost(shown_in_order(table, [(0, 1)], filters), marks)
                             for filters in every if set(marks) <= set(shown_by(table, filters)))
                self.assertEqual(cheapest_filters(table, [(0, 1)], marks)[0], fewest)

    def test_at_the_limits(self):
        table = Table(5, [[row % 2, row % 3, row, -row, 10 ** 29] for row in range(40)])
        self.assertEqual(cheapest_filters(table, [], list(range(0, 40, 2))), (3, [0], [("click", 0), ("range", 19)]))
        self.assertEqual(cheapest_filters(table, [(3, 1)], list(range(0, 40, 6))), (4, [0, 1], [("click", 0), ("range", 6)]))
        number, columns, clicks = cheapest_filters(great_table(), [(0, 1), (3, -1)], list(range(40)))
        self.assertEqual((number, columns, clicks), (2, [], [("click", 0), ("range", 39)]))

    def test_errors(self):
        table = example_table()
        self.assertEqual(error_of(cheapest_filters, table, [(2, 1)], [1, 1]), (InvalidSorting, [(2, 1)]))
        for marks in ([2, 1], [1, 1], [5], [-1, 0]):
            self.assertEqual(error_of(cheapest_filters, table, [(1, 1)], marks), (InvalidMarks, marks))


class ByFiltersTest(unittest.TestCase):
    def test_examples(self):
        self.assertEqual(by_filters(example_view()), [(2, 3), (1, 2)])
        self.assertEqual(by_filters(view=example_view([1, 2, 3])), [(1, 0), (1, 0)])
        self.assertEqual(by_filters(View(empty_table(3), [], open_filters(3), [[], [], []])), [(1, 0)] * 3)
        self.assertIsNone(by_filters(example_view([2])))

    def test_against_the_definition(self):
        for view in some_views(seed=4, number=60):
            rows = sorted(view.open_rows())
            told = by_filters(view)
            if not rows:
                self.assertEqual(told, [(1, 0)] * view.table.width)
            elif shown_by(view.table, tight(view.table, rows)) == rows:
                self.assertEqual(told, tight(view.table, rows))
            else:
                self.assertIsNone(told)
            if told is not None:
                self.assertEqual(sorted(View(view.table, view.sorting, told, [[], []]).open_rows()), rows)

    def test_at_the_limits(self):
        table = great_table()
        values = sorted(set(table.column(1)))
        view = View(table, [(1, 1)], open_filters(5), [[], values[3:] + list(range(40)), [], [], []])
        self.assertEqual(by_filters(view)[1], (values[0], values[2]))


class StretchTest(unittest.TestCase):
    def test_examples(self):
        table = example_table()
        self.assertEqual(stretch_of(table, [(0, 1)], [(1, 2), OPEN]), (0, 2))
        self.assertEqual(stretch_of(table=table, sorting=[], filters=[OPEN, OPEN]), (0, 4))
        self.assertIsNone(stretch_of(table, [(0, 1)], [OPEN, (2, 2)]))
        self.assertIsNone(stretch_of(table, [], [(9, None), OPEN]))
        self.assertIsNone(stretch_of(empty_table(), [], [OPEN, OPEN]))
        self.assertEqual(stretch_of(table, [], [(2, 2), OPEN]), (3, 3))

    def test_against_the_definition(self):
        chance = random.Random(3)
        for table in some_tables(2, number=12):
            for start in chance.sample(all_sortings(2), 4):
                filters = [chance.choice(many_filters(table.column(at))) for at in range(2)]
                order, shown = order_by(table, start), shown_by(table, filters)
                fitting = [(first, last) for first in range(len(order)) for last in range(first, len(order))
                           if sorted(order[first:last + 1]) == shown]
                self.assertEqual(stretch_of(table, start, filters), fitting[0] if fitting else None)

    def test_errors(self):
        table = example_table()
        self.assertEqual(error_of(stretch_of, table, [(2, 1)], [OPEN]), (InvalidSorting, [(2, 1)]))
        self.assertEqual(error_of(stretch_of, table, [(1, 1)], [OPEN]), (InvalidFilters, 1))
        self.assertEqual(error_of(stretch_of, table, [], [OPEN] * 3), (InvalidFilters, 3))


class FilterForTest(unittest.TestCase):
    def test_examples(self):
        table = example_table()
        self.assertEqual(filter_for(table, [(0, 1)], 0, 2), [(1, 2), OPEN])
        self.assertIsNone(filter_for(table=table, sorting=[(0, 1)], first=0, last=0))
        self.assertEqual(filter_for(table, [(1, -1), (0, 1)], 2, 4), [OPEN, (1, 1)])
        self.assertEqual(filter_for(table, [(0, -1)], 0, 4), [(1, 3), OPEN])

    def test_against_the_definition(self):
        chance = random.Random(4)
        for table in some_tables(2, number=12):
            for start in chance.sample(all_sortings(2)[1:], 4):
                order, column = order_by(table, start), start[0][0]
                for first in range(len(order)):
                    for last in range(first, len(order)):
                        rows = sorted(order[first:last + 1])
                        filters = [tight(table, rows)[at] if at == column else OPEN for at in range(2)]
                        fits = shown_by(table, filters) == rows
                        self.assertEqual(filter_for(table, start, first, last), filters if fits else None)

    def test_at_the_limits(self):
        table = great_table()
        values = sorted(set(table.column(4)))
        last = sum(cell <= values[1] for cell in table.column(4)) - 1
        self.assertEqual(filter_for(table, [(4, 1), (2, -1)], 0, last), [OPEN] * 4 + [(values[0], values[1])])
        self.assertEqual(filter_for(table, [(4, -1)], 0, 39), [OPEN] * 4 + [(values[0], values[-1])])

    def test_errors(self):
        table = example_table()
        self.assertEqual(error_of(filter_for, table, [(2, 1)], -1, 9), (InvalidSorting, [(2, 1)]))
        self.assertEqual(error_of(filter_for, table, [], -1, 9), (InvalidSorting, []))
        for first in (-1, 5, 10 ** 59):
            self.assertEqual(error_of(filter_for, table, [(0, 1)], first, 9), (InvalidPosition, first))
        for last in (-1, 5, 2, -10 ** 59):
            self.assertEqual(error_of(filter_for, table, [(0, 1)], 3, last), (InvalidPosition, last))
        self.assertEqual(error_of(filter_for, empty_table(), [(0, 1)], 0, 0), (InvalidPosition, 0))
        self.assertEqual(filter_for(table, [(0, 1)], 3, 4), [(3, 3), OPEN])


class FoldsForMarksTest(unittest.TestCase):
    def test_examples(self):
        pairs = View(Table(1, [[1], [1], [2], [2], [3], [3]]), [(0, 1)], [OPEN], [[]])
        self.assertEqual(folds_for_marks(pairs, [0, 1, 4, 5]), (3, [("fold", 2)]))
        self.assertEqual(folds_for_marks(view=pairs, marks=[]), (0, []))
        self.assertEqual(folds_for_marks(pairs, [2, 3]), (2, []))
        self.assertEqual(folds_for_marks(example_view(), [1]), (2, [("all",)]))
        self.assertEqual(folds_for_marks(example_view(), [0]), (1, []))
        self.assertEqual(folds_for_marks(View(example_table(), [], open_filters(2), [[1], []]), [0, 2]), (2, []))
        self.assertEqual(folds_for_marks(View(empty_table(), [(0, 1)], open_filters(2), [[1], []]), []), (0, []))

    def test_against_all_deeds(self):
        for view in some_views(seed=5, number=24, most=4):
            for marks in sublists(view.shown())[::2]:
                every = []
                for deeds in all_lists(group_deeds_on(view), 2):
                    rows = view.done(deeds).open_rows()
                    if set(marks) <= set(rows):
                        every.append((len(deeds) + cost(rows, marks), len(deeds), deeds))
                number, deeds = folds_for_marks(view, marks)
                if every:
                    self.assertEqual((number, deeds), (min(every)[0], min(every)[2]))
                rows = view.done(deeds).open_rows()
                self.assertEqual(number, len(deeds) + cost(rows, marks))
                self.assertEqual(mark_all(rows, [], None, cheapest_clicks(rows, marks))[0], marks)

    def test_six_rows(self):
        chance = random.Random(6)
        for _ in range(3):
            view = View(random_table(chance, 2, 6, 6), [(0, 1), (1, -1)], open_filters(2), [[1, 3], [2]])
            for marks in sublists(range(6))[5::11]:
                number, deeds = folds_for_marks(view, marks)
                for told in all_lists(group_deeds_on(view), 1):
                    rows = view.done(told).open_rows()
                    if set(marks) <= set(rows):
                        self.assertLessEqual(number, len(told) + cost(rows, marks))

    def test_errors(self):
        hidden = View(example_table(), [(0, 1)], [(2, None), OPEN], [[3], []])
        for marks in ([2, 1], [0, 0], [5], [-1, 0], [1], [0, 4]):
            self.assertEqual(error_of(folds_for_marks, hidden, marks), (InvalidMarks, marks))
        self.assertEqual(folds_for_marks(hidden, [0]), (2, [("all",)]))
