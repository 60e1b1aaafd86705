"""[13] and listwindow/groupforms.py."""

import itertools
import random
import unittest

from listwindow.errors import InvalidDeed, InvalidValue
from listwindow.groupforms import formed_folds, group_deeds, group_form, joined_groups
from listwindow.tables import Table
from listwindow.views import View
from tests.support import all_lists, error_of, sublists


def folded_behind(values, deeds, folded):
    """The folded values behind deeds, as [13] tells them, where the groups have just some values."""
    folded = set(folded)
    for deed in deeds:
        if deed[0] == "all":
            folded = set()
        elif deed[0] == "fold":
            folded = folded ^ {deed[1]}
        elif deed[1] in values:
            folded = (folded | set(values)) - {deed[1]}
    return sorted(folded)


def naive_form(values, deeds):
    ones = [deed for deed in deeds if deed[0] == "one" and deed[1] in values]
    cleared = ("all",) in deeds
    return (not cleared and not ones, not cleared, folded_behind(values, deeds, []))


def all_forms(values, strangers=()):
    """All forms for some values, with turned values out of them and of some others."""
    for kept, others in itertools.product([True, False], repeat=2):
        for turned in sublists(list(values) + list(strangers)):
            if not (kept and not others) and not (kept != others and not values):
                yield (kept, others, turned)


def deeds_for(values, strangers=()):
    told = sorted(list(values) + list(strangers))
    return [("all",)] + [(word, value) for word in ("fold", "one") for value in told]


class GroupFormTest(unittest.TestCase):
    def test_examples(self):
        deeds = [("fold", 9), ("one", 2), ("fold", 1)]
        self.assertEqual(group_form([1, 2, 3], deeds), (False, True, [3, 9]))
        self.assertEqual(group_form(values=[], deeds=deeds), (True, True, [1, 9]))
        self.assertEqual(group_form([1], []), (True, True, []))
        self.assertEqual(group_form([1], [("one", 1)]), (False, True, []))
        self.assertEqual(group_form([1], [("one", 2)]), (True, True, []))
        self.assertEqual(group_form([2, 1], [("one", 1), ("all",)]), (False, False, []))
        self.assertEqual(group_form([2, 1], [("all",), ("one", 1)]), (False, False, [2]))

    def test_against_the_definition(self):
        for values in ([], [1], [2, 1], [1, 7, -3]):
            for deeds in all_lists(deeds_for(values, [5]), 3):
                self.assertEqual(group_form(values, deeds), naive_form(values, deeds))

    def test_two_lists_do_the_same_to_all_views_exactly_if_their_forms_are_equal(self):
        views = [View(Table(2, [[1, 0], [2, 0], [1, 1]]), sorting, [(None, None)] * 2, [folded, [4]])
                 for sorting in ([(0, 1)], [(0, -1), (1, 1)]) for folded in sublists([1, 2, 5])]
        lists = all_lists(deeds_for([1, 2], [5]), 3)
        by_form, by_views = {}, {}
        for deeds in lists:
            kept, others, turned = group_form([2, 1], deeds)
            form = (kept, others, tuple(turned))
            made = tuple([tuple(view.done(deeds).folds[0]) for view in views])
            self.assertEqual(by_form.setdefault(form, made), made)
            self.assertEqual(by_views.setdefault(made, form), form)

    def test_with_many_deeds(self):
        chance = random.Random(5)
        values = [10 ** 29 + value for value in range(40)]
        for _ in range(30):
            deeds = [chance.choice([("all",), ("fold", chance.choice(values)), ("fold", chance.randrange(9)),
                                    ("one", chance.choice(values))]) for _ in range(60)]
            deeds = [deed for deed in deeds if deed != ("all",)][:30] + deeds[:30] if chance.random() < 0.5 else deeds
            self.assertEqual(group_form(values, deeds), naive_form(values, deeds))

    def test_errors(self):
        self.assertEqual(error_of(group_form, [3, 1, 2, 1, 3], [("sort", 0)]), (InvalidValue, 1))
        for word in [("sort", 0), ("only", 0, 1, 2), ("click", 0), ("range", 0), ("turn", 5), ("visit", "few")]:
            self.assertEqual(error_of(group_form, [1], [("one", 1), word, ("turn", 1)]), (InvalidDeed, word))


class FormedFoldsTest(unittest.TestCase):
    def test_examples(self):
        self.assertEqual(formed_folds([1, 2, 3], (False, True, [3, 9]), [1, 9, 7]), [3, 7])
        self.assertEqual(formed_folds(values=[], form=(True, True, []), folded=[9, 1]), [1, 9])
        self.assertEqual(formed_folds([1], (False, False, [1]), [1, 2]), [1])
        self.assertEqual(formed_folds([1], (True, True, [1]), [1, 2]), [2])

    def test_against_all_lists(self):
        for values in ([], [2], [2, 1]):
            for deeds in all_lists(deeds_for(values, [5]), 3):
                for folded in sublists([1, 2, 5, 6]):
                    told = formed_folds(values, group_form(values, deeds), folded[::-1])
                    self.assertEqual(told, folded_behind(values, deeds, folded))

    def test_with_sixty_folded_values(self):
        values, folded = list(range(0, 80, 2)), list(range(59, -1, -1))
        self.assertEqual(formed_folds(values, (False, True, [3, 4, 500]), folded),
                         sorted(set(range(1, 60, 2)) ^ {3, 4, 500}))

    def test_errors(self):
        good = (True, True, [])
        self.assertEqual(error_of(formed_folds, [1, 1], (True, False, []), [2, 2]), (InvalidValue, 1))
        for form in [(True, False, []), (True, True, [2, 1]), (False, False, [1, 1]), (True, False, [1, 2])]:
            self.assertEqual(error_of(formed_folds, [1], form, [2, 2]), (InvalidValue, form))
        self.assertEqual(error_of(formed_folds, [], (False, True, []), [2, 2]), (InvalidValue, (False, True, [])))
        self.assertEqual(error_of(formed_folds, [], (True, False, []), []), (InvalidValue, (True, False, [])))
        self.assertEqual(error_of(formed_folds, [], good, [2, 3, 3, 2]), (InvalidValue, 3))
        self.assertEqual(formed_folds([], (False, False, [4]), [2]), [4])


class JoinedGroupsTest(unittest.TestCase):
    def test_examples(self):
        form = (False, True, [3, 9])
        self.assertEqual(joined_groups([1, 2, 3], form, (True, True, [3])), (False, True, [9]))
        self.assertEqual(joined_groups(values=[1, 2, 3], one=(True, True, [3]), other=form), form)
        self.assertEqual(joined_groups([], (True, True, [3]), (False, False, [])), (False, False, []))

    def test_against_all_lists(self):
        for values in ([], [2], [2, 1]):
            lists = all_lists(deeds_for(values, [5]), 2)
            for one in lists:
                for other in lists:
                    told = joined_groups(values, group_form(values, one), group_form(values, other))
                    self.assertEqual(told, group_form(values, one + other))

    def test_errors(self):
        good, bad = (True, True, []), (True, False, [])
        self.assertEqual(error_of(joined_groups, [4, 4], bad, bad), (InvalidValue, 4))
        self.assertEqual(error_of(joined_groups, [4], bad, (True, True, [2, 2])), (InvalidValue, bad))
        self.assertEqual(error_of(joined_groups, [4], good, (True, True, [2, 2])), (InvalidValue, (True, True, [2, 2])))


class GroupDeedsTest(unittest.TestCase):
    def test_examples(self):
        self.assertEqual(group_deeds([1, 2, 3], (False, True, [3, 9])), [("fold", 9), ("one", 1), ("fold", 2)])
        self.assertEqual(group_deeds(values=[1, 2], form=(False, True, [])), [("one", 1), ("fold", 2)])
        self.assertEqual(group_deeds([], (True, True, [])), [])
        self.assertEqual(group_deeds([], (False, False, [4])), [("all",), ("fold", 4)])
        self.assertEqual(group_deeds([3, 2, 1], (False, False, [1, 2])), [("all",), ("one", 3)])
        self.assertEqual(group_deeds([4, 3, 2, 1], (False, False, [1, 2])), [("all",), ("fold", 1), ("fold", 2)])
        self.assertEqual(group_deeds([3, 2, 1, 4], (False, False, [1, 2, 4, 9])),
                         [("all",), ("fold", 9), ("one", 3)])

    def test_against_all_lists(self):
        # All lists of deeds, the shortest first: the first one with a form is what group_deeds gives.
        for values, strangers, most in [([], [5, 6], 4), ([2], [5], 4), ([2, 1], [5], 4), ([3, 1, 2], [], 4)]:
            first = {}
            for deeds in all_lists(deeds_for(values, strangers), most):
                kept, others, turned = naive_form(values, deeds)
                first.setdefault((kept, others, tuple(turned)), deeds)
            for form in all_forms(values, strangers):
                told = group_deeds(values, form)
                self.assertEqual(naive_form(values, told), form)
                expected = first.get((form[0], form[1], tuple(form[2])))
                if expected is None:
                    self.assertGreater(len(told), most)
                else:
                    self.assertEqual(told, expected)

    def test_with_six_values(self):
        values = [6, 5, 4, 3, 2, 1]
        for form in all_forms(values, [9]):
            told = group_deeds(values, form)
            self.assertEqual(naive_form(values, told), form)
            self.assertLessEqual(len(told), 9)
        self.assertEqual(group_deeds(values, (False, False, [1, 2, 3, 4, 5, 6])),
                         [("all",), ("one", 1), ("fold", 1)])

    def test_errors(self):
        self.assertEqual(error_of(group_deeds, [4, 2, 4], (True, False, [])), (InvalidValue, 4))
        self.assertEqual(error_of(group_deeds, [4], (True, False, [])), (InvalidValue, (True, False, [])))
        self.assertEqual(error_of(group_deeds, [], (False, True, [2, 3])), (InvalidValue, (False, True, [2, 3])))
        self.assertEqual(error_of(group_deeds, [], (False, False, [3, 2])), (InvalidValue, (False, False, [3, 2])))
