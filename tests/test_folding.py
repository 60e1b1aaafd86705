"""[12], [13] and listwindow/folding.py."""

import random
import unittest

from listwindow.errors import InvalidDeed, InvalidRows
from listwindow.filters import open_filters
from listwindow.folding import can_be_open, fewest_folds, fold_form, folds_alike, open_states
from listwindow.tables import Table
from listwindow.views import View
from tests.support import (all_lists, empty_table, equal_table, error_of, example_table, first_list, great_table,
                           random_table, sublists)

FOLDS = [("all",), ("fold", 1), ("fold", 2)]


def group_deeds_on(view):
    """All deeds on groups, as they are compared, on the values of the groups and on two others."""
    values = sorted([value for value, rows in view.groups()] + [77, -77])
    return [("all",)] + [(word, value) for word in ("fold", "one") for value in values]


def folds_after(view, folds, deed):
    """The folds, as a key, of a view with other folds behind a deed on groups."""
    there = View(view.table, view.sorting, view.filters, [list(folded) for folded in folds]).done([deed])
    return tuple([tuple(folded) for folded in there.folds])


def first_folds(view, rows):
    """The first shortest list of deeds on groups behind which just some rows are open: all are tried."""
    def is_wanted(folds):
        there = View(view.table, view.sorting, view.filters, [list(folded) for folded in folds])
        return sorted(there.open_rows()) == sorted(rows)
    start = tuple([tuple(folded) for folded in view.folds])
    return first_list(start, group_deeds_on(view), lambda folds, deed: folds_after(view, folds, deed), is_wanted)


def some_views(seed=1, number=30, most=5, width=2):
    chance = random.Random(seed)
    views = [View(empty_table(), [(0, 1)], open_filters(2), [[3], []]), View(example_table(), [], open_filters(2), [[1], [2]]),
             View(example_table(), [(0, 1)], [(9, None), (None, None)], [[1], []]),
             View(equal_table(), [(1, -1)], open_filters(2), [[], []])]
    while len(views) < number:
        table = random_table(chance, width, chance.randrange(1, most + 1), 3)
        sorting = [(column, chance.choice([1, -1])) for column in chance.sample(range(width), chance.randrange(width + 1))]
        filters = [chance.choice([(None, None), (None, None), (1, None), (None, 1), (2, 0)]) for _ in range(width)]
        folds = [chance.sample([0, 1, 2, 5, -3], chance.randrange(5)) for _ in range(width)]
        views.append(View(table, sorting, filters, folds))
    return views


class FoldFormTest(unittest.TestCase):
    def test_examples(self):
        self.assertEqual(fold_form([("fold", 2), ("all",), ("fold", 1), ("fold", 1), ("fold", 3)]), (True, [3]))
        self.assertEqual(fold_form(deeds=[]), (False, []))
        self.assertEqual(fold_form([("all",)]), (True, []))
        self.assertEqual(fold_form([("fold", 5), ("fold", -1), ("fold", 3)]), (False, [-1, 3, 5]))
        self.assertEqual(fold_form([("fold", 5), ("all",), ("all",)]), (True, []))
        self.assertEqual(fold_form([("fold", 10 ** 60 - 1)]), (False, [10 ** 60 - 1]))

    def test_two_lists_do_the_same_exactly_if_their_forms_are_equal(self):
        lists = all_lists(FOLDS, 4)
        views = [View(Table(1, [[1], [2], [2]]), [(0, 1)], [(None, None)], [folded])
                 for folded in ([], [1], [2], [1, 2], [5])]
        made = [[view.done(deeds) for view in views] for deeds in lists]
        for one, deeds in enumerate(lists):
            for other in range(one):
                alike = made[one] == made[other]
                self.assertEqual(fold_form(deeds) == fold_form(lists[other]), alike)
                self.assertIs(folds_alike(deeds, lists[other]), alike)

    def test_deeds_twice_exchanged_and_ahead_of_all(self):
        chance = random.Random(4)
        for _ in range(40):
            deeds = [chance.choice(FOLDS + [("fold", 3), ("fold", 4)]) for _ in range(58)]
            self.assertTrue(folds_alike(deeds, deeds + [("fold", 8), ("fold", 8)]))
            self.assertTrue(folds_alike(deeds + [("all",)], [("all",)]))
            folds = [deed for deed in deeds if deed != ("all",)]
            self.assertTrue(folds_alike(folds, sorted(folds)))
            self.assertTrue(folds_alike(one=[("all",)] + folds, other=deeds[:5] + [("all",)] + folds[::-1]))
            self.assertFalse(folds_alike(folds, [("all",)] + folds))

    def test_errors(self):
        for word in [("one", 1), ("sort", 0), ("only", 0, 1, 2), ("click", 0), ("range", 0), ("turn", 5),
                     ("visit", "few")]:
            self.assertEqual(error_of(fold_form, [("fold", 1), word, ("visit", "x")]), (InvalidDeed, word))
            self.assertEqual(error_of(folds_alike, [word], [("one", 5)]), (InvalidDeed, word))
            self.assertEqual(error_of(folds_alike, [], [("all",), word]), (InvalidDeed, word))


class FewestFoldsTest(unittest.TestCase):
    def test_examples(self):
        view = View(example_table(), [(0, 1)], open_filters(2), [[], []])
        self.assertEqual(fewest_folds(view=view, rows=[3]), [("one", 2)])
        self.assertEqual(fewest_folds(view, [4, 3, 1]), [("fold", 3)])
        self.assertEqual(fewest_folds(view, []), [("one", 1), ("fold", 1)])
        self.assertEqual(fewest_folds(view, [0, 1, 2, 3, 4]), [])
        self.assertIsNone(fewest_folds(view, [1]))
        self.assertIs(can_be_open(view, [1]), False)
        self.assertIs(can_be_open(view=view, rows=[4, 1]), True)
        folded = View(example_table(), [(0, 1)], open_filters(2), [[1, 2, 3, 9], []])
        self.assertEqual(fewest_folds(folded, [0, 1, 2, 3, 4]), [("all",)])
        self.assertEqual(fewest_folds(folded, []), [])
        self.assertEqual(fewest_folds(folded, [3]), [("fold", 2)])

    def test_without_keys_and_without_rows(self):
        view = View(example_table(), [], open_filters(2), [[1], [2]])
        self.assertEqual(fewest_folds(view, [4, 0, 1, 3, 2]), [])
        self.assertIsNone(fewest_folds(view, [0]))
        self.assertIsNone(fewest_folds(view, []))
        nothing = View(example_table(), [(0, 1)], [(9, None), (None, None)], [[1], []])
        self.assertEqual(fewest_folds(nothing, []), [])
        self.assertEqual(fewest_folds(View(empty_table(), [], open_filters(2), [[], []]), []), [])
        self.assertIs(can_be_open(view, []), False)
        self.assertIs(can_be_open(nothing, []), True)

    def test_against_all_lists(self):
        for view in some_views():
            for rows in sublists(view.shown()):
                told = first_folds(view, rows)
                self.assertEqual(fewest_folds(view, rows[::-1]), told)
                self.assertIs(can_be_open(view, rows), told is not None)

    def test_at_the_limits(self):
        table = great_table()
        values = sorted(set(table.column(0)))
        view = View(table, [(0, -1), (1, 1)], open_filters(5), [values[::2] + list(range(49)), [], [], [], []])
        for wanted in (values[::3], values[:1], [], values, values[:-1]):
            rows = [row for row in range(40) if table.cell(row, 0) in wanted]
            deeds = fewest_folds(view, rows)
            self.assertEqual(sorted(view.done(deeds).open_rows()), rows)
        ones = View(Table(1, [[row] for row in range(40)]), [(0, 1)], [(None, None)], [[]])
        self.assertEqual(fewest_folds(ones, [17]), [("one", 17)])
        self.assertEqual(fewest_folds(ones, [30, 17]), [("one", 17), ("fold", 30)])
        self.assertEqual(fewest_folds(ones, list(range(1, 40))), [("fold", 0)])

    def test_errors(self):
        hidden = View(example_table(), [(0, 1)], [(2, None), (None, None)], [[], []])
        for call in (fewest_folds, can_be_open):
            for rows in ([0, 0], [1], [0, 1], [5], [-1], [0, 3, 2, 3]):
                self.assertEqual(error_of(call, hidden, rows), (InvalidRows, rows))
            self.assertEqual(error_of(call, View(example_table(), [], open_filters(2), [[], []]), [7]), (InvalidRows, [7]))
        self.assertEqual(fewest_folds(hidden, [3]), [("fold", 3)])


class OpenStatesTest(unittest.TestCase):
    def test_examples(self):
        self.assertEqual(open_states(View(example_table(), [(0, 1)], open_filters(2), [[1], []])), 8)
        self.assertEqual(open_states(view=View(example_table(), [], open_filters(2), [[1], []])), 1)
        self.assertEqual(open_states(View(empty_table(), [(0, 1)], open_filters(2), [[1], []])), 1)
        great = View(Table(1, [[row] for row in range(40)]), [(0, 1)], [(None, None)], [[]])
        self.assertEqual(open_states(great), 2 ** 40)

    def test_against_the_definition(self):
        for view in some_views(seed=3):
            made = {tuple(view.done(deeds).open_rows()) for deeds in all_lists(group_deeds_on(view), 1)}
            while True:
                known = len(made)
                for rows in list(made):
                    values = [value for value, part in view.groups() if not set(part) <= set(rows)]
                    base = view.done([("all",)] + [("fold", value) for value in values])
                    made |= {tuple(base.done([deed]).open_rows()) for deed in group_deeds_on(view)}
                if len(made) == known:
                    break
            self.assertEqual(open_states(view), len(made))
