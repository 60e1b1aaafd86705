"""[20], [21] and listwindow/trailways.py."""

import itertools
import math
import random
import unittest

from listwindow.errors import InvalidName, InvalidNumber, InvalidValue, UnknownPlace
from listwindow.trails import visit_form
from listwindow.trailways import (fewest_visits, leaves, number_before, number_of_shortest, tour, visit_forms,
                                  visits_of_lengths, visits_told)
from tests.support import all_lists, error_of, first_list, shuffled
from tests.test_houses import NO_NAMES
from tests.test_trails import EMPTY, PLACES, after, all_tuples, first_visits, form_by, random_visits, trails_of
from tests.window_model import visit_by

STAR = ("a", [("a", "a"), ("b", "a"), ("c", "a")])


class LeavesTest(unittest.TestCase):
    def test_examples(self):
        self.assertEqual((leaves(STAR), leaves(form=EMPTY), leaves(("a", [("a", "a")]))), (["b", "c"], [], ["a"]))

    def test_by_their_definition(self):
        for form, _ in first_visits("abc", 6):
            places = [place for place, _ in form[1]]
            told = [place for place in places if not any(onward == place != other for other, onward in form[1])]
            self.assertEqual(leaves(form), told)


class FewestTest(unittest.TestCase):
    def test_examples(self):
        self.assertEqual((fewest_visits(STAR), number_of_shortest(STAR)), (5, 2))
        self.assertEqual((fewest_visits(form=EMPTY), number_of_shortest(form=EMPTY)), (0, 1))
        self.assertEqual((fewest_visits(("a", [("a", "a")])), number_of_shortest(("a", [("a", "a")]))), (1, 1))

    def test_all_visits(self):
        shortest = {}
        for visits in all_lists("abcd", 7):
            shortest.setdefault(str(form_by(visits)), []).append(visits)
        for form, first in first_visits("abcd", 7):
            lists = [visits for visits in shortest[str(form)] if len(visits) == len(first)]
            self.assertEqual((fewest_visits(form), number_of_shortest(form)), (len(first), len(lists)))
            told = len(form[1]) + len(leaves(form))
            self.assertEqual(fewest_visits(form), told - 1 if form[0] in leaves(form) else told)

    def test_at_the_limits(self):
        form = ("a", [(place, "a") for place in sorted(PLACES)])
        self.assertEqual((fewest_visits(form), number_of_shortest(form)), (39, math.factorial(19)))
        form = ("b", form[1])
        self.assertEqual((fewest_visits(form), number_of_shortest(form)), (38, math.factorial(18)))

    def test_visit_forms(self):
        self.assertEqual([visit_forms(number) for number in range(4)], [1, 1, 4, 27])
        for number in range(4):
            forms = {str(form) for form, _ in first_visits("abc"[:number], 6) if len(form[1]) == number}
            self.assertEqual(visit_forms(number), len(forms))
        self.assertEqual(visit_forms(number=40), 40 ** 40)
        self.assertEqual(error_of(visit_forms, -1), (InvalidNumber, -1))


class FormErrorsTest(unittest.TestCase):
    def test_forms(self):
        forms = {str(form_by(visits)) for visits in all_lists("ab", 5)}
        calls = [leaves, fewest_visits, number_of_shortest, lambda form: number_before(form, ["a"], ["a"])]
        for form, call in itertools.product(all_tuples(["a", "b"]), calls):
            self.assertEqual(error_of(call, form), None if str(form) in forms else (InvalidValue, form))
        calls[3] = lambda form: number_before(form, ["B"], ["C"])
        for name, call in itertools.product(NO_NAMES, calls):
            self.assertEqual(error_of(call, (name, [("B", "B")])), (InvalidName, name))
            self.assertEqual(error_of(call, ("a", [("a", "a"), ("b", name), ("B", "B")])), (InvalidName, name))
            self.assertEqual(error_of(call, ("a", [(name, "B")])), (InvalidName, name))


class ToldTest(unittest.TestCase):
    def test_examples(self):
        self.assertEqual(visits_told(["a"], [["a", "b"], ["a"], ["a", "c"]]), ["b", "a", "c"])
        self.assertIsNone(visits_told(trail=[], trails=[["a"], ["b"]]))
        self.assertEqual(visits_told(["a"], []), [])
        self.assertEqual((visits_told([], [[]]), visits_told(["a"], [[]])), (None, None))

    def test_all_visits(self):
        for trail in trails_of("abc"):
            for visits in all_lists("abcd", 3):
                trails = [after(trail, visits[:number]) for number in range(1, len(visits) + 1)]
                self.assertEqual(visits_told(trail, trails), visits)

    def test_all_trails(self):
        trails = trails_of("abc")
        for trail, one in itertools.product(trails, repeat=2):
            steps = [name for name in "abc" if visit_by(trail, name) == one]
            self.assertEqual(visits_told(trail, [one]), steps or None)
            for other in trails[::4]:
                told = [name for name in "abc" if visit_by(one, name) == other]
                self.assertEqual(visits_told(trail, [one, other]), steps + told if steps and told else None)

    def test_at_the_limits(self):
        visits = random_visits(random.Random(1), PLACES, 60)
        trails = [after([], visits[:number]) for number in range(1, 61)]
        self.assertEqual(visits_told([], trails), visits)

    def test_errors(self):
        for name in NO_NAMES:
            self.assertEqual(error_of(visits_told, ["a", name, "a"], [["B"]]), (InvalidName, name))
            self.assertEqual(error_of(visits_told, ["a"], [["a", "a"], ["b", name], ["B"]]), (InvalidName, name))
        self.assertEqual(error_of(visits_told, ["a", "b", "a"], [["B"]]), (UnknownPlace, "a"))
        self.assertEqual(error_of(visits_told, [], [["b"], ["a", "b", "b", "a"], ["c", "c"]]), (UnknownPlace, "b"))


class LengthsTest(unittest.TestCase):
    def test_examples(self):
        self.assertEqual(visits_of_lengths(["c", "a", "b"], [1, 2, 1, 2]), (12, ["a", "b", "a", "b"]))
        self.assertEqual(visits_of_lengths(places=[], lengths=[]), (1, []))
        self.assertEqual((visits_of_lengths([], [1]), visits_of_lengths(["a"], [1, 2])), ((0, None), (0, None)))
        self.assertEqual(visits_of_lengths(["a"], [1, 1, 1]), (1, ["a", "a", "a"]))

    def test_all_visits(self):
        for number in range(4):
            places = "bca"[:number]
            found = {}
            for visits in all_lists(sorted(places), 4):
                lengths = [len(after([], visits[:some])) for some in range(1, len(visits) + 1)]
                found.setdefault(tuple(lengths), []).append(visits)
            for most in range(5):
                for lengths in itertools.product(range(-1, 5), repeat=most):
                    lists = found.get(lengths, [])
                    expected = (len(lists), lists[0]) if lists else (0, None)
                    self.assertEqual(visits_of_lengths(list(places), list(lengths)), expected)

    def test_at_the_limits(self):
        number, first = visits_of_lengths(PLACES[::-1], list(range(1, 21)) + [1] + list(range(2, 21)) + [10 ** 29])
        self.assertEqual((number, first), (0, None))
        number, first = visits_of_lengths(PLACES[::-1], list(range(1, 21)) + [1] + list(range(2, 21)))
        self.assertEqual(number, math.factorial(20) * math.factorial(19))
        self.assertEqual(first, sorted(PLACES) + sorted(PLACES))

    def test_errors(self):
        for name in NO_NAMES:
            self.assertEqual(error_of(visits_of_lengths, ["a", name, "a"], [-1]), (InvalidName, name))
        self.assertEqual(error_of(visits_of_lengths, ["a", "b", "b", "a"], [-1]), (UnknownPlace, "b"))


class BeforeTest(unittest.TestCase):
    def test_examples(self):
        self.assertEqual(number_before(("a", [("a", "b"), ("b", "b")]), ["a", "b", "x"], ["x", "a", "b"]), 3)
        self.assertEqual(number_before(form=EMPTY, places=["a", "b"], goal=["b"]), 1)
        self.assertEqual((number_before(EMPTY, ["a"], ["b"]), number_before(EMPTY, [], [])), (0, 1))
        self.assertEqual(number_before(STAR, ["a"], []), 0)

    def test_all_trails(self):
        for visits in all_lists("abc", 3) + [list("abacb"), list("cacab")]:
            for places in ([], ["c"], ["x", "b"], ["x", "a", "c"], ["b", "a", "c", "x"], ["y", "x", "b"]):
                made = [after(trail, visits) for trail in trails_of(places)]
                for goal in trails_of("abcx") + [["x", "y", "a"], ["y", "x", "b", "a"]]:
                    self.assertEqual(number_before(form_by(visits), places, goal), made.count(goal))

    def test_at_the_limits(self):
        form = ("a", [(place, "a") for place in sorted(PLACES)])
        lists = sum(math.factorial(19) // math.factorial(19 - some) for some in range(20))
        self.assertEqual(number_before(form, PLACES, ["a"]), 1 + lists)
        self.assertEqual(number_before(form, PLACES, ["b", "a"]), lists)
        self.assertEqual(number_before(("z", [("z", "z")]), PLACES, PLACES[:7] + ["z"]), 1)

    def test_errors(self):
        for name in NO_NAMES:
            self.assertEqual(error_of(number_before, EMPTY, ["a", name, "a"], ["B"]), (InvalidName, name))
            self.assertEqual(error_of(number_before, EMPTY, ["a"], ["b", name, "b"]), (InvalidName, name))
        self.assertEqual(error_of(number_before, EMPTY, ["a", "b", "b", "a"], ["B"]), (UnknownPlace, "b"))
        self.assertEqual(error_of(number_before, EMPTY, ["a"], ["a", "b", "a"]), (UnknownPlace, "a"))


class TourTest(unittest.TestCase):
    def test_examples(self):
        self.assertEqual(tour(["a", "b"], ["x"], ["a", "b"]), ["x", "b"])
        self.assertEqual(tour(trail=["a", "b"], places=["b"], goal=["a", "b"]), [])
        self.assertEqual(tour(["a"], ["x"], ["a", "b"]), ["b", "x", "b"])
        self.assertIsNone(tour(["a"], [], ["b"]))
        self.assertEqual((tour([], [], []), tour([], ["a"], []), tour([], ["b"], ["a"])), ([], None, ["a", "b", "a"]))

    def test_all_tours(self):
        trails = trails_of("abc") + [list("ad"), list("abd"), list("dab"), list("abcd")]
        for trail, goal in itertools.product(trails, repeat=2):
            for number in range(4):
                for places in list(itertools.combinations("dcba", number))[::2]:
                    def behind(state, name):
                        there = visit_by(list(state[0]), name)
                        return tuple(there), state[1] - {name}
                    start = (tuple(trail), frozenset(places) - frozenset(trail[-1:]))
                    # A place that is neither in a trail nor wished may be visited, too.
                    told = first_list(start, "abcde", behind, lambda state: list(state[0]) == goal and not state[1])
                    self.assertEqual(tour(trail, list(places), goal), told, (trail, places, goal))

    def test_at_the_limits(self):
        chance = random.Random(2)
        trail, places = shuffled(chance, PLACES), shuffled(chance, PLACES)
        for goal in (trail, trail[:9], trail[:1] + sorted(trail[1:]), trail[:5] + sorted(trail[5:])):
            told = tour(trail, places, goal)
            self.assertEqual(after(trail, told), goal)
            self.assertLessEqual(set(PLACES) - {trail[-1]}, set(told))
        self.assertEqual(visit_form(tour([], PLACES, ["z"])), ("z", visit_form(["z"] + sorted(PLACES) + ["z"])[1]))

    def test_errors(self):
        for name in NO_NAMES:
            self.assertEqual(error_of(tour, ["a", name, "a"], ["B"], ["C"]), (InvalidName, name))
            self.assertEqual(error_of(tour, ["a"], ["b", name, "b"], ["C"]), (InvalidName, name))
            self.assertEqual(error_of(tour, ["a"], ["b"], ["a", "a", name]), (InvalidName, name))
        self.assertEqual(error_of(tour, ["a", "a"], ["B"], ["C"]), (UnknownPlace, "a"))
        self.assertEqual(error_of(tour, ["a"], ["b", "c", "c", "b"], ["C"]), (UnknownPlace, "c"))
        self.assertEqual(error_of(tour, ["a"], ["b"], ["c", "c"]), (UnknownPlace, "c"))
