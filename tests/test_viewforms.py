"""[8], [10], [13] and listwindow/viewforms.py."""

import itertools
import random
import unittest

from listwindow.errors import InvalidColumn, InvalidDeed
from listwindow.filters import open_filters
from listwindow.tables import Table
from listwindow.viewforms import by_view_form, view_form, views_alike
from listwindow.views import View
from tests.support import all_lists, all_sortings, error_of, example_table, great_table, sublists

OPEN = (None, None)
DEEDS = [("all",), ("fold", 1), ("only", 0, 1, None), ("sort", 0), ("sort", 1)]


def key_of(form):
    """A form as it can be a key."""
    (keys, bound), only, folds = form
    return (tuple(keys), bound, tuple(only), tuple([(column, cleared, tuple(values))
                                                    for column, (cleared, values) in folds]))


def made_by(deeds, views):
    """What deeds make of views."""
    made = [view.done(deeds) for view in views]
    return tuple([(tuple(view.sorting), tuple(view.filters), tuple([tuple(folded) for folded in view.folds]))
                  for view in made])


def many_views():
    """Views that tell all that deeds on two columns and on one value do."""
    table = Table(2, [[1, 2], [2, 1]])
    return [View(table, sorting, [bounds, OPEN], [list(one), list(other)]) for sorting in all_sortings(2)
            for bounds in (OPEN, (5, 6)) for one in sublists([1]) for other in sublists([1])]


def random_deeds(chance, length):
    found = []
    for _ in range(length):
        word = chance.choice(["sort", "only", "fold", "fold", "fold", "all"])
        found.append({"sort": ("sort", chance.randrange(2)), "all": ("all",), "fold": ("fold", chance.randrange(4)),
                      "only": ("only", chance.randrange(2), chance.choice([None, 1]), chance.choice([None, 2]))}[word])
    return found


class ViewFormTest(unittest.TestCase):
    def test_examples(self):
        deeds = [("fold", 2), ("sort", 1), ("fold", 5), ("only", 0, 1, None), ("fold", 5), ("all",)]
        self.assertEqual(view_form(deeds=deeds), (([(1, 1)], True), [("only", 0, 1, None)],
                                                  [(None, (False, [2])), (1, (True, []))]))
        self.assertEqual(view_form([]), (([], False), [], []))
        self.assertEqual(view_form([("only", 3, None, None), ("only", 1, 2, 1), ("only", 3, 1, 1)])[1],
                         [("only", 1, 2, 1), ("only", 3, 1, 1)])
        self.assertEqual(view_form([("sort", 59), ("fold", 1), ("sort", 2), ("fold", 3), ("sort", 59), ("fold", 1)]),
                         (([(59, 1), (2, 1)], False), [], [(2, (False, [3]))]))
        self.assertEqual(view_form([("sort", 4), ("fold", 9), ("sort", 1), ("all",)])[2],
                         [(1, (True, [])), (4, (False, [9]))])

    def test_two_lists_do_the_same_to_all_views_exactly_if_their_forms_are_equal(self):
        by_form, by_made = {}, {}
        views = many_views()
        for deeds in all_lists(DEEDS, 4):
            form, made = key_of(view_form(deeds)), made_by(deeds, views)
            self.assertEqual(by_form.setdefault(form, made), made)
            self.assertEqual(by_made.setdefault(made, form), form)
        self.assertEqual(len(by_form), len(by_made))

    def test_views_alike(self):
        self.assertIs(views_alike([("sort", 0), ("fold", 1), ("sort", 1)], [("sort", 0), ("sort", 1)]), False)
        self.assertIs(views_alike(one=[("fold", 1), ("only", 0, 1, 2), ("fold", 2)],
                                  other=[("only", 0, 7, 7), ("fold", 2), ("fold", 1), ("only", 0, 1, 2)]), True)
        lists = all_lists(DEEDS, 2)
        for one, other in itertools.product(lists, repeat=2):
            self.assertIs(views_alike(one, other), view_form(one) == view_form(other))

    def test_errors(self):
        for word in [("one", 1), ("click", 0), ("range", 0), ("turn", 5), ("visit", "few")]:
            deeds = [("sort", -1), ("fold", 1), word, ("one", 7)]
            self.assertEqual(error_of(view_form, deeds), (InvalidDeed, word))
            self.assertEqual(error_of(views_alike, deeds, [("turn", 1)]), (InvalidDeed, word))
            self.assertEqual(error_of(views_alike, [], deeds), (InvalidDeed, word))
        self.assertEqual(error_of(view_form, [("fold", -9), ("only", -2, 0, 0), ("sort", -1)]), (InvalidColumn, -2))
        self.assertEqual(error_of(view_form, [("sort", -1), ("only", -2, 0, 0)]), (InvalidColumn, -1))
        self.assertEqual(error_of(views_alike, [("sort", -1)], [("one", 1)]), (InvalidColumn, -1))


class ByViewFormTest(unittest.TestCase):
    def test_against_the_deeds(self):
        chance = random.Random(8)
        table = Table(2, [[1, 2], [2, 1], [1, 1]])
        for _ in range(300):
            view = View(table, chance.choice(all_sortings(2)), [chance.choice([OPEN, (2, None)]), OPEN],
                        [chance.sample(range(5), chance.randrange(4)) for _ in range(2)])
            deeds = random_deeds(chance, chance.choice([0, 1, 3, 9, 60]))
            self.assertEqual(by_view_form(view_form(deeds), view), view.done(deeds))
            self.assertEqual(by_view_form(form=view_form(deeds), view=view).lines(), view.done(deeds).lines())

    def test_all_short_lists(self):
        for view in many_views()[::3]:
            for deeds in all_lists(DEEDS, 3):
                self.assertEqual(by_view_form(view_form(deeds), view), view.done(deeds))

    def test_at_the_limits(self):
        view = View(great_table(), [(4, -1), (0, 1)], open_filters(5), [list(range(60)) for _ in range(5)])
        deeds = [("fold", 3), ("fold", 99), ("sort", 2), ("all",), ("fold", 7), ("sort", 4), ("fold", 3)] * 8
        self.assertEqual(by_view_form(view_form(deeds), view), view.done(deeds))
        self.assertEqual(by_view_form(view_form([]), view), view)

    def test_errors(self):
        view = View(example_table(), [(0, 1)], [OPEN, OPEN], [[1], []])
        form = view_form([("only", 7, 1, 2), ("sort", 3), ("sort", 1), ("sort", 2), ("only", 5, 1, 2)])
        self.assertEqual(error_of(by_view_form, form, view), (InvalidColumn, 2))
        self.assertEqual(error_of(by_view_form, view_form([("only", 7, 1, 2), ("only", 5, 1, 2)]), view),
                         (InvalidColumn, 5))
        self.assertEqual(error_of(by_view_form, view_form([("only", 2, 1, 2), ("sort", 59), ("fold", 1)]), view),
                         (InvalidColumn, 59))
        self.assertEqual(by_view_form(view_form([("all",)]), view).folds, [[], []])
