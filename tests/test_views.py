"""[10], [12], [13] and listwindow/views.py."""

import random
import unittest

from listwindow.errors import InvalidColumn, InvalidFilters, InvalidSorting, InvalidValue
from listwindow.filters import open_filters
from listwindow.tables import Table
from listwindow.views import View
from tests.support import (all_sortings, click, empty_table, equal_table, error_of, example_table, great_table,
                           many_filters, order_by, shown_by, some_tables)


class Model:
    """A view as [7], [10], [12] and [13] tell it: plain lists, changed deed by deed."""

    def __init__(self, table, sorting, filters, folds):
        self.table, self.sorting, self.filters = table, list(sorting), list(filters)
        self.folds = [list(folded) for folded in folds]

    def shown(self):
        return [row for row in order_by(self.table, self.sorting) if row in shown_by(self.table, self.filters)]

    def groups(self):
        groups = []
        for row in self.shown() if self.sorting else []:
            value = self.table.cell(row, self.sorting[0][0])
            if groups and groups[-1][0] == value:
                groups[-1][1].append(row)
            else:
                groups.append((value, [row]))
        return groups

    def lines(self):
        if not self.sorting:
            return [("row", row) for row in self.shown()]
        lines = []
        for value, rows in self.groups():
            lines.append(("head", value, len(rows)))
            if value not in self.folds[self.sorting[0][0]]:
                lines += [("row", row) for row in rows]
        return lines

    def do(self, deed):
        word, *parts = deed
        if word == "sort":
            self.sorting = click(self.sorting, parts[0])
        elif word == "only":
            self.filters[parts[0]] = (parts[1], parts[2])
        elif self.sorting:
            folded = self.folds[self.sorting[0][0]]
            values = [value for value, rows in self.groups()]
            if word == "all":
                folded.clear()
            elif word == "fold" and parts[0] in folded:
                folded.remove(parts[0])
            elif word == "fold":
                folded.append(parts[0])
            elif parts[0] in values:
                for value in values:
                    if value not in folded:
                        folded.append(value)
                folded.remove(parts[0])


def random_deed(chance, width, values):
    word = chance.choice(["sort", "only", "fold", "fold", "one", "one", "all"])
    if word == "sort":
        return (word, chance.randrange(width))
    if word == "only":
        return (word, chance.randrange(width)) + chance.choice(many_filters([0, 1]))
    return (word,) if word == "all" else (word, chance.choice(values))


def example_view():
    return View(example_table(), [(0, 1)], open_filters(2), [[1], []])


class ViewTest(unittest.TestCase):
    def assert_like(self, view, model):
        self.assertEqual(view.table, model.table)
        self.assertEqual(view.sorting, model.sorting)
        self.assertEqual(view.filters, model.filters)
        self.assertEqual(view.folds, [sorted(folded) for folded in model.folds])
        self.assertEqual(view.shown(), model.shown())
        self.assertEqual(view.groups(), model.groups())
        self.assertEqual(view.lines(), model.lines())
        self.assertEqual(view.open_rows(), [line[1] for line in model.lines() if line[0] == "row"])
        self.assertEqual(len(view), len(model.lines()))

    def test_example(self):
        view = example_view()
        self.assertEqual(view.lines(), [("head", 1, 2), ("head", 2, 1), ("row", 3), ("head", 3, 2), ("row", 0),
                                        ("row", 2)])
        self.assertEqual((view.shown(), view.open_rows()), ([1, 4, 3, 0, 2], [3, 0, 2]))
        self.assertEqual((view.groups(), len(view)), ([(1, [1, 4]), (2, [3]), (3, [0, 2])], 6))

    def test_what_it_is_made_of(self):
        table = example_table()
        view = View(table=table, sorting=[(1, -1)], filters=[(1, None), (None, 2)], folds=[[9, -3, 4], []])
        self.assertEqual((view.table, view.sorting, view.filters, view.folds),
                         (table, [(1, -1)], [(1, None), (None, 2)], [[-3, 4, 9], []]))

    def test_without_keys(self):
        view = View(example_table(), [], [(None, 2), (None, None)], [[1, 2], [1]])
        self.assertEqual((view.groups(), view.shown(), view.open_rows()), ([], [1, 3, 4], [1, 3, 4]))
        self.assertEqual(view.lines(), [("row", 1), ("row", 3), ("row", 4)])
        self.assertEqual(len(view), 3)

    def test_deeds_on_groups_do_nothing_without_keys(self):
        view = View(example_table(), [], open_filters(2), [[5], [6]])
        self.assertEqual(view.done([("fold", 1), ("one", 1), ("all",), ("one", 5), ("fold", 5)]), view)

    def test_without_rows(self):
        view = View(empty_table(), [(0, 1)], open_filters(2), [[4], []])
        self.assertEqual((view.lines(), view.groups(), view.shown(), view.open_rows(), len(view)), ([], [], [], [], 0))
        self.assertEqual(view.done([("one", 4)]), view)
        self.assertEqual(view.done([("fold", 4)]).folds, [[], []])

    def test_equal_rows(self):
        view = View(equal_table(2, 3), [(1, -1)], open_filters(2), [[7], []])
        self.assertEqual(view.lines(), [("head", 7, 3), ("row", 0), ("row", 1), ("row", 2)])
        self.assertEqual(view.done([("fold", 7)]).lines(), [("head", 7, 3)])

    def test_only_the_folded_values_of_the_first_key_count(self):
        view = View(example_table(), [(1, 1), (0, 1)], open_filters(2), [[1, 2], []])
        self.assertEqual(len(view.open_rows()), 5)
        self.assertEqual(view.done([("sort", 0)]).open_rows(), [0, 2])

    def test_sort_deed(self):
        self.assertEqual(example_view().done([("sort", 1)]).sorting, [(1, 1), (0, 1)])
        self.assertEqual(example_view().done([("sort", 0), ("sort", 0), ("sort", 0)]).sorting, [(0, -1)])
        self.assertEqual(example_view().done([("sort", 1)]).lines()[:2], [("head", 1, 3), ("row", 4)])

    def test_only_deed(self):
        view = example_view().done([("fold", 1), ("only", 1, 2, None)])
        self.assertEqual(view.lines(), [("head", 1, 1), ("row", 1), ("head", 3, 1), ("row", 2)])
        self.assertEqual(view.done([("only", 1, None, None)]).filters, open_filters(2))

    def test_fold_deed(self):
        view = example_view()
        self.assertEqual(view.done([("fold", 9)]).folds, [[1, 9], []])
        self.assertEqual(view.done([("fold", 1)]).folds, [[], []])
        self.assertEqual(view.done([("fold", -9), ("fold", 9), ("fold", 9)]).folds, [[-9, 1], []])

    def test_one_deed(self):
        view = example_view()
        self.assertEqual(view.done([("one", 2)]).folds, [[1, 3], []])
        self.assertEqual(view.done([("one", 1)]).folds, [[2, 3], []])
        self.assertEqual(view.done([("one", 9)]), view)
        self.assertEqual(view.done([("fold", 7), ("one", 3)]).folds, [[1, 2, 7], []])
        # The group of 2 is hidden: its value neither asks for the deed, nor is it folded.
        hidden = view.done([("only", 0, None, 1)])
        self.assertEqual(hidden.done([("one", 2)]), hidden)
        self.assertEqual(hidden.done([("one", 1)]).folds, [[], []])
        self.assertEqual(hidden.done([("fold", 2), ("one", 1)]).folds, [[2], []])

    def test_all_deed(self):
        self.assertEqual(example_view().done([("fold", 9), ("all",)]).folds, [[], []])
        self.assertEqual(View(example_table(), [(0, 1)], open_filters(2), [[1], [2]]).done([("all",)]).folds, [[], [2]])
        self.assertFalse(example_view().done([("all",)]) == example_view())

    def test_no_deeds(self):
        self.assertEqual(example_view().done(deeds=[]), example_view())

    def test_views_never_change(self):
        view = example_view()
        view.done([("sort", 1), ("fold", 2), ("sort", 0), ("one", 3), ("all",), ("only", 0, 5, 5)])
        self.assertEqual(view, example_view())
        for held in (view.sorting, view.filters, view.folds, view.folds[0], view.shown(), view.open_rows(),
                     view.groups(), view.groups()[0][1], view.lines()):
            held.append(3)
        self.assertEqual(view, example_view())
        self.assertEqual((view.lines(), view.folds), (example_view().lines(), example_view().folds))

    def test_it_keeps_nothing_that_is_passed(self):
        sorting, filters, folds = [(0, 1)], open_filters(2), [[1], []]
        view = View(example_table(), sorting, filters, folds)
        sorting.append((1, 1))
        filters[0] = (9, 9)
        folds[0].append(2)
        folds.append([])
        self.assertEqual(view, example_view())

    def test_random_deeds_against_the_definition(self):
        chance = random.Random(11)
        for table in some_tables(2, number=30, most=6):
            sorting = chance.choice(all_sortings(2))
            folds = [chance.sample(range(-1, 4), chance.randrange(4)) for _ in range(2)]
            start = View(table, sorting, open_filters(2), folds)
            model = Model(table, sorting, open_filters(2), folds)
            deeds = [random_deed(chance, 2, [-1, 0, 1, 2, 3]) for _ in range(25)]
            self.assert_like(start, model)
            for number, deed in enumerate(deeds):
                model.do(deed)
                self.assert_like(start.done(deeds[:number + 1]), model)

    def test_at_the_limits(self):
        chance = random.Random(12)
        table = great_table()
        cells = sorted(set(table.column(2)))
        folds = [chance.sample(range(-10 ** 59, -10 ** 59 + 200), 60) for _ in range(5)]
        folds[2] = cells[::-1] + folds[2][:60 - len(cells)]
        view = View(table, [(2, 1), (0, -1), (1, 1), (3, -1), (4, 1)], open_filters(5), folds)
        model = Model(table, view.sorting, open_filters(5), folds)
        self.assert_like(view, model)
        self.assertEqual(view.open_rows(), [])
        deeds = [random_deed(chance, 5, cells + [10 ** 59]) for _ in range(60)]
        for deed in deeds:
            model.do(deed)
        self.assert_like(view.done(deeds), model)

    def test_tables_made_of_others(self):
        table = example_table() + example_table().with_row([2, 2]).without_row(0).with_cell(1, 0, 9)
        for made in (table, table.picked([5, 5, 0, 9])):
            anew = Table(2, made.rows)
            for sorting in all_sortings(2):
                view = View(made, sorting, [(None, 8), (1, None)], [[1], [2]])
                self.assertEqual(view.lines(), View(anew, sorting, [(None, 8), (1, None)], [[1], [2]]).lines())

    def test_equality(self):
        view = example_view()
        same = View(Table(2, example_table().rows), [(0, 1)], open_filters(2), [[1], []])
        self.assertTrue(view == same)
        self.assertFalse(view != same)
        self.assertTrue(View(example_table(), [], open_filters(2), [[3, 1], []])
                        == View(example_table(), [], open_filters(2), [[1, 3], []]))
        for other in (View(example_table().with_cell(0, 0, 4), [(0, 1)], open_filters(2), [[1], []]),
                      View(example_table(), [(0, -1)], open_filters(2), [[1], []]),
                      View(example_table(), [(0, 1)], [(None, None), (None, 5)], [[1], []]),
                      View(example_table(), [(0, 1)], open_filters(2), [[1], [1]]),
                      example_table(), None, view.lines(), 6):
            self.assertFalse(view == other)
            self.assertTrue(view != other)

    def test_errors(self):
        table = example_table()
        good = open_filters(2)
        for keys in ([(2, 1)], [(0, 1), (0, 1)], [(0, 0)], [(-1, 1)]):
            self.assertEqual(error_of(View, table, keys, [], [[5, 5]]), (InvalidSorting, keys))
        self.assertEqual(error_of(View, table, [], [(1, 1)], [[5, 5]]), (InvalidFilters, 1))
        self.assertEqual(error_of(View, table, [], [(1, 1)] * 3, []), (InvalidFilters, 3))
        self.assertEqual(error_of(View, table, [], good, [[5, 5]]), (InvalidValue, 1))
        self.assertEqual(error_of(View, table, [], good, []), (InvalidValue, 0))
        self.assertEqual(error_of(View, table, [], good, [[5, 5], [], []]), (InvalidValue, 3))
        self.assertEqual(error_of(View, table, [], good, [[1, 4, 6, 4, 1], [2, 2]]), (InvalidValue, 4))
        self.assertEqual(error_of(View, table, [], good, [[1, 4], [3, -2, -2, 3]]), (InvalidValue, -2))
        self.assertIsNone(error_of(View, table, [], good, [[1, 4], [4, 1]]))

    def test_deed_errors(self):
        view = example_view()
        deeds = [("fold", 2), ("sort", 1), ("only", 2, 0, 0), ("sort", -1)]
        self.assertEqual(error_of(view.done, deeds), (InvalidColumn, 2))
        self.assertEqual(error_of(view.done, [("sort", -1)] + deeds), (InvalidColumn, -1))
        self.assertEqual(error_of(view.done, [("sort", 2)]), (InvalidColumn, 2))
        self.assertEqual(error_of(view.done, [("only", -1, None, None)]), (InvalidColumn, -1))
        self.assertEqual(view, example_view())
        self.assertEqual(view.done([("fold", 9)]).folds, [[1, 9], []])
