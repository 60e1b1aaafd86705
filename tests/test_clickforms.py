"""[8] and listwindow/clickforms.py."""

import itertools
import unittest

from listwindow.clickforms import (alike, clicks_for, first_apart, form_of, formed, forms_between, is_form, joined,
                                   number_made, number_of_forms, repeated)
from listwindow.errors import InvalidColumn, InvalidNumber, InvalidSorting
from tests.support import all_sortings, click_all, click_lists, error_of

WRONG_FORMS = [([], True), ([(0, 1)], False), ([(0, 1), (0, -1)], True), ([(0, 2)], True), ([(-1, 1)], True),
               ([(0, 1), (1, 0)], False), ([(1, 1), (0, 1), (1, 1)], False)]
WRONG_SORTINGS = [[(0, 1), (0, -1)], [(3, 0)], [(-1, 1)], [(5, 1), (2, 10 ** 59)]]


def naive_form(clicks):
    """The form as [8] tells it."""
    bound = clicks != [] and not any(column == clicks[0] and any(other != column for other in clicks[:at])
                                     for at, column in enumerate(clicks))
    return (click_all([], clicks), bound)


def forms_by_clicks(width, most):
    """For each form that clicks have, the first of the shortest lists of clicks with it, and all lists."""
    found = {}
    for clicks in click_lists(width, most):
        keys, bound = naive_form(clicks)
        found.setdefault((tuple(keys), bound), []).append(clicks)
    return found


def long_clicks():
    return [(index * index + index // 7) % 60 for index in range(60)]


class FormOfTest(unittest.TestCase):
    def test_form_of(self):
        self.assertEqual(form_of([0, 0, 1]), ([(1, 1), (0, -1)], True))
        self.assertEqual(form_of([0, 1, 0]), ([(0, 1), (1, 1)], False))
        self.assertEqual(form_of([]), ([], False))
        self.assertEqual(form_of(clicks=[59, 59]), ([(59, -1)], True))
        self.assertEqual(form_of([3, 5, 7, 5, 7]), ([(7, 1), (5, 1), (3, 1)], True))

    def test_against_the_definition(self):
        for clicks in click_lists(3, 6):
            self.assertEqual(form_of(clicks), naive_form(clicks))
        self.assertEqual(form_of(long_clicks()), naive_form(long_clicks()))

    def test_errors(self):
        self.assertEqual(error_of(form_of, [0, -2, -1]), (InvalidColumn, -2))
        self.assertEqual(error_of(form_of, [-1]), (InvalidColumn, -1))


class IsFormTest(unittest.TestCase):
    def test_forms_of_clicks_are(self):
        for keys, bound in forms_by_clicks(3, 5):
            self.assertIs(is_form((list(keys), bound)), True)

    def test_no_others_are(self):
        for form in WRONG_FORMS:
            self.assertIs(is_form(form=form), False)

    def test_all_tuples_of_small_keys(self):
        there = forms_by_clicks(2, 6)
        keys = [(column, sign) for column in (-1, 0, 1) for sign in (-1, 0, 1)]
        for number in range(4):
            for told in itertools.product(keys, repeat=number):
                for bound in (False, True):
                    self.assertEqual(is_form((list(told), bound)), (told, bound) in there)

    def test_of_60_keys(self):
        keys = [(column, -1) for column in range(60)]
        self.assertIs(is_form((keys, False)), True)
        self.assertIs(is_form((keys, True)), True)


class FormedTest(unittest.TestCase):
    def test_formed(self):
        self.assertEqual(formed(form_of([0]), [(0, 1), (1, 1)]), [(0, -1), (1, 1)])
        self.assertEqual(formed(form_of([0]), [(0, -1)]), [(0, 1)])
        self.assertEqual(formed(form=form_of([0]), sorting=[(1, 1), (0, -1)]), [(0, 1), (1, 1)])
        self.assertEqual(formed(([], False), [(8, -1)]), [(8, -1)])

    def test_it_does_what_the_clicks_do(self):
        for clicks in click_lists(3, 5):
            for keys in all_sortings(3):
                self.assertEqual(formed(form_of(clicks), keys), click_all(keys, clicks))

    def test_at_the_limits(self):
        sorting = [(column, -1) for column in range(59, -1, -1)]
        self.assertEqual(formed(form_of(long_clicks()), sorting), click_all(sorting, long_clicks()))
        first = [(long_clicks()[0], 1)]
        self.assertEqual(formed(form_of(long_clicks()), first), click_all(first, long_clicks()))

    def test_errors(self):
        for form in WRONG_FORMS:
            self.assertEqual(error_of(formed, form, [(0, 0)]), (InvalidSorting, form))
        for sorting in WRONG_SORTINGS:
            self.assertEqual(error_of(formed, form_of([0, 1]), sorting), (InvalidSorting, sorting))


class JoinedTest(unittest.TestCase):
    def test_joined(self):
        self.assertEqual(joined(form_of([0]), form_of([0])), ([(0, -1)], True))
        self.assertEqual(joined(one=form_of([0]), other=form_of([1])), ([(1, 1), (0, 1)], True))
        self.assertEqual(joined(([], False), ([], False)), ([], False))

    def test_against_the_clicks(self):
        for one in click_lists(3, 3):
            for other in click_lists(3, 4):
                self.assertEqual(joined(form_of(one), form_of(other)), naive_form(one + other))

    def test_60_keys(self):
        one = ([(column, -1) for column in range(60)], True)
        other = ([(column, -1) for column in range(59, -1, -1)], False)
        self.assertEqual(joined(one, other), (other[0], False))
        self.assertEqual(joined(one, ([(77, 1)], True)), ([(77, 1)] + one[0], True))

    def test_errors(self):
        for form in WRONG_FORMS:
            self.assertEqual(error_of(joined, form, WRONG_FORMS[0]), (InvalidSorting, form))
            self.assertEqual(error_of(joined, form_of([1]), form), (InvalidSorting, form))


class ClicksForTest(unittest.TestCase):
    def test_clicks_for(self):
        self.assertEqual(clicks_for(([(0, 1), (1, 1)], False)), [0, 1, 0])
        self.assertEqual(clicks_for(form=([(1, 1), (0, -1)], True)), [0, 0, 1])
        self.assertEqual(clicks_for(([], False)), [])

    def test_the_first_of_the_shortest(self):
        for width, most in ((2, 8), (3, 7)):
            found = forms_by_clicks(width, most)
            self.assertEqual(len(found), number_of_forms(width))
            for (keys, bound), lists in found.items():
                self.assertEqual(clicks_for((list(keys), bound)), lists[0])

    def test_60_keys(self):
        keys = [(column, -1) for column in range(59, -1, -1)]
        clicks = clicks_for((keys, False))
        self.assertEqual((len(clicks), clicks[0]), (121, 1))
        self.assertEqual(naive_form(clicks), (keys, False))

    def test_errors(self):
        for form in WRONG_FORMS:
            self.assertEqual(error_of(clicks_for, form), (InvalidSorting, form))


class AlikeTest(unittest.TestCase):
    def test_alike(self):
        self.assertIs(alike([0, 1, 1, 1], [0, 1]), True)
        self.assertIs(alike(one=[1, 0, 1], other=[0, 1]), False)
        self.assertIs(alike([], []), True)
        self.assertIs(alike([0], []), False)

    def test_exactly_if_they_do_the_same_to_all_sortings(self):
        # One further column stands for all that neither list clicks.
        sortings = all_sortings(3)
        lists = list(click_lists(2, 5))
        done = [[click_all(keys, clicks) for keys in sortings] for clicks in lists]
        for one, mine in zip(lists, done):
            for other, its in zip(lists, done):
                apart = [keys for keys, told, others in zip(sortings, mine, its) if told != others]
                self.assertEqual(alike(one, other), apart == [])
                self.assertEqual(form_of(one) == form_of(other), apart == [])
                self.assertEqual(first_apart(one, other), apart[0] if apart else None)

    def test_first_apart(self):
        self.assertEqual(first_apart([1, 0, 1], [0, 1]), [(0, 1)])
        self.assertEqual(first_apart(one=[], other=[3]), [])
        self.assertIsNone(first_apart([5, 5, 5], [5]))
        self.assertIsNone(first_apart([], []))

    def test_60_clicks(self):
        clicks = long_clicks()
        self.assertIs(alike(clicks, clicks_for(form_of(clicks))), True)
        self.assertIs(alike(clicks, clicks[:-1]), False)
        bound = list(range(20)) + list(range(1, 20))
        self.assertEqual(first_apart(bound, [1] + bound), [(0, 1)])

    def test_errors(self):
        for call in (alike, first_apart):
            self.assertEqual(error_of(call, [0, -2, -1], [-3]), (InvalidColumn, -2))
            self.assertEqual(error_of(call, [0], [1, -3, -4]), (InvalidColumn, -3))


class NumberOfFormsTest(unittest.TestCase):
    def test_number_of_forms(self):
        self.assertEqual([number_of_forms(1), number_of_forms(2), number_of_forms(width=3)], [3, 21, 151])
        self.assertEqual([number_of_forms(width) for width in (1, 2)],
                         [len(forms_by_clicks(width, 7)) for width in (1, 2)])
        self.assertEqual([number_of_forms(4), number_of_forms(5)],
                         [1 + 8 + 2 * (48 + 192 + 384), 1 + 10 + 2 * (80 + 480 + 1920 + 3840)])

    def test_errors(self):
        self.assertEqual(error_of(number_of_forms, 0), (InvalidNumber, 0))
        self.assertEqual(error_of(number_of_forms, -1), (InvalidNumber, -1))


class RepeatedTest(unittest.TestCase):
    def test_repeated(self):
        self.assertEqual(repeated(([(0, 1)], True), 2), ([(0, -1)], True))
        self.assertEqual(repeated(([(0, -1)], True), 10 ** 30), ([(0, -1)], True))
        self.assertEqual(repeated(([(1, 1), (0, -1)], True), 5), ([(1, 1), (0, -1)], False))
        self.assertEqual(repeated(form=([(0, 1)], True), times=0), ([], False))

    def test_against_the_clicks(self):
        for clicks in click_lists(3, 5):
            for times in range(7):
                self.assertEqual(repeated(form_of(clicks), times), naive_form(clicks * times))

    def test_great_numbers(self):
        for times in (10 ** 60 - 1, 10 ** 60 - 2):
            for clicks in ([], [4], [4, 4], [4, 5], [4, 5, 4], [1, 2, 2, 3]):
                few = 4 + times % 2
                self.assertEqual(repeated(form_of(clicks), times), naive_form(clicks * few))
        keys = [(column, -1) for column in range(60)]
        self.assertEqual(repeated((keys, True), 10 ** 60 - 1), (keys, False))

    def test_errors(self):
        for form in WRONG_FORMS:
            self.assertEqual(error_of(repeated, form, -1), (InvalidSorting, form))
        self.assertEqual(error_of(repeated, ([], False), -1), (InvalidNumber, -1))
        self.assertEqual(error_of(repeated, ([(0, 1)], True), -10 ** 60 + 1), (InvalidNumber, -10 ** 60 + 1))


class NumberMadeTest(unittest.TestCase):
    def test_number_made(self):
        self.assertEqual(number_made(2, form_of([0])), 6)
        self.assertEqual(number_made(2, form_of([0, 1, 0])), 1)
        self.assertEqual(number_made(width=3, form=([], False)), 79)
        self.assertEqual(number_made(5, ([], False)), 6331)
        self.assertEqual(number_made(5, form_of([4, 3, 4])), 79)

    def test_against_all_sortings(self):
        for width in (1, 2, 3):
            for keys, bound in forms_by_clicks(width, 6):
                clicks = clicks_for((list(keys), bound))
                made = {tuple(click_all(sorting, clicks)) for sorting in all_sortings(width)}
                self.assertEqual(number_made(width, (list(keys), bound)), len(made))

    def test_errors(self):
        self.assertEqual(error_of(number_made, 0, WRONG_FORMS[0]), (InvalidNumber, 0))
        for form in WRONG_FORMS:
            self.assertEqual(error_of(number_made, 1, form), (InvalidSorting, form))
        self.assertEqual(error_of(number_made, 2, ([(1, 1), (7, 1), (9, 1)], True)), (InvalidColumn, 7))
        self.assertEqual(error_of(number_made, 2, ([(2, 1)], True)), (InvalidColumn, 2))


class FormsBetweenTest(unittest.TestCase):
    def test_forms_between(self):
        self.assertEqual(forms_between(1, [(0, 1)], [(0, -1)]), [([(0, 1)], True)])
        self.assertEqual(forms_between(width=1, sorting=[(0, 1)], goal=[(0, 1)]), [([], False), ([(0, -1)], True)])
        self.assertEqual(forms_between(2, [(0, 1), (1, 1)], [(1, 1)]), [])

    def test_against_all_forms(self):
        for width in (1, 2):
            lists = [lists[0] for lists in forms_by_clicks(width, 8).values()]
            lists = sorted(lists, key=lambda clicks: (len(clicks), clicks))
            for sorting in all_sortings(width):
                for goal in all_sortings(width):
                    forms = [naive_form(clicks) for clicks in lists if click_all(sorting, clicks) == goal]
                    self.assertEqual(forms_between(width, sorting, goal), forms)

    def test_errors(self):
        self.assertEqual(error_of(forms_between, 0, [(5, 5)], [(5, 5)]), (InvalidNumber, 0))
        for sorting in WRONG_SORTINGS + [[(2, 1)]]:
            self.assertEqual(error_of(forms_between, 2, sorting, [(5, 5)]), (InvalidSorting, sorting))
            self.assertEqual(error_of(forms_between, 2, [(1, 1)], sorting), (InvalidSorting, sorting))


class RefusedCallsTest(unittest.TestCase):
    def test_good_calls_behind_refused_ones_answer_as_before(self):
        form = form_of([1, 0, 1])
        for wrong in WRONG_FORMS:
            for call in (lambda: joined(form, wrong), lambda: formed(wrong, []), lambda: repeated(wrong, 3)):
                with self.assertRaises(InvalidSorting):
                    call()
            self.assertEqual((form, joined(form, form), formed(form, []), repeated(form, 3)),
                             (form_of([1, 0, 1]), form_of([1, 0, 1] * 2), [(1, 1), (0, 1)], form_of([1, 0, 1] * 3)))
