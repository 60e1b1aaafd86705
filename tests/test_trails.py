"""[20], [21] and listwindow/trails.py."""

import itertools
import random
import unittest

from listwindow.errors import InvalidName, InvalidValue, UnknownPlace
from listwindow.trails import (by_form, joined_visits, kept_trails, shortest_visits, trail_after, trail_apart,
                               visit_form, visits_alike, visits_between, ways_home)
from tests.support import all_lists, error_of
from tests.test_houses import NO_NAMES
from tests.window_model import visit_by

PLACES = [letter * length for length, letter in itertools.product((1, 8), "abcdefghij")]
EMPTY = (None, [])


def after(trail, visits):
    for name in visits:
        trail = visit_by(trail, name)
    return list(trail)


def form_by(visits):
    """The form of visits, as [21] tells it."""
    if not visits:
        return None, []
    exits = []
    for name in sorted(set(visits)):
        last = max(at for at, told in enumerate(visits) if told == name)
        exits.append((name, visits[last + 1] if last + 1 < len(visits) else name))
    return visits[0], exits


def trails_of(places):
    """All trails of some places, by length, then as lists."""
    return [list(told) for number in range(len(places) + 1) for told in itertools.permutations(sorted(places), number)]


def random_visits(chance, places, length):
    return [chance.choice(places) for _ in range(length)]


def first_visits(places, most):
    """For each form of visits of some places up to a length the first list, by length, then as lists."""
    found = {}
    for visits in all_lists(sorted(places), most):
        first, exits = form_by(visits)
        found.setdefault((first, tuple(exits)), visits)
    return [((first, list(exits)), visits) for (first, exits), visits in found.items()]


def all_tuples(places):
    """All tuples of the kinds of a form, of some places, forms and others."""
    for first in [None] + places:
        for number in range(len(places) + 1):
            for told in itertools.permutations(places, number):
                for exits in itertools.product(places, repeat=number):
                    yield first, list(zip(told, exits))


class TrailAfterTest(unittest.TestCase):
    def test_examples(self):
        self.assertEqual(trail_after([], ["a", "b", "c", "a", "d"]), ["a", "d"])
        self.assertEqual(trail_after(trail=["b", "a"], visits=[]), ["b", "a"])
        self.assertEqual(trail_after(["b", "a"], ["a"]), ["b", "a"])
        self.assertEqual(trail_after(["b", "a"], ["b"]), ["b"])

    def test_all_visits(self):
        for trail in trails_of("abc"):
            for visits in all_lists("abcd", 4):
                self.assertEqual(trail_after(trail, visits), after(trail, visits))

    def test_at_the_limits(self):
        chance = random.Random(1)
        trail = chance.sample(PLACES, 20)
        for _ in range(20):
            visits = random_visits(chance, PLACES, 60)
            self.assertEqual(trail_after(trail, visits), after(trail, visits))
            self.assertEqual(trail_after([], PLACES + visits[:40]), after([], PLACES + visits[:40]))

    def test_errors(self):
        for name in NO_NAMES:
            self.assertEqual(error_of(trail_after, ["a", name, "a", "B"], ["C"]), (InvalidName, name))
            self.assertEqual(error_of(trail_after, ["a"], ["b", name, "C"]), (InvalidName, name))
        self.assertEqual(error_of(trail_after, ["a", "b", "b", "a"], ["C"]), (UnknownPlace, "b"))


class FormTest(unittest.TestCase):
    def test_examples(self):
        self.assertEqual(visit_form(["a", "b", "c", "a", "d"]),
                         ("a", [("a", "d"), ("b", "c"), ("c", "a"), ("d", "d")]))
        self.assertEqual((visit_form([]), visit_form(visits=["z"])), (EMPTY, ("z", [("z", "z")])))
        self.assertEqual(by_form(("a", [("a", "d"), ("b", "c"), ("c", "a"), ("d", "d")]), ["x", "b"]),
                         ["x", "b", "c", "a", "d"])
        self.assertEqual((by_form(form=EMPTY, trail=["x"]), by_form(EMPTY, [])), (["x"], []))
        self.assertEqual(by_form(("a", [("a", "b"), ("b", "b")]), ["x"]), ["x", "a", "b"])

    def test_all_visits(self):
        trails = trails_of("abcx")
        for visits in all_lists("abc", 5):
            form = visit_form(visits)
            self.assertEqual(form, form_by(visits))
            for trail in trails[::3]:
                self.assertEqual(by_form(form, trail), after(trail, visits))

    def test_alike_exactly_if_the_forms_are_equal(self):
        trails = trails_of("abcx")
        made = {}
        for visits in all_lists("abc", 5):
            effect = str([after(trail, visits) for trail in trails])
            self.assertEqual(made.setdefault(effect, visit_form(visits)), visit_form(visits))
        self.assertEqual(len(made), len({str(form) for form in made.values()}))
        self.assertEqual(len(made), 1 + 3 * 1 + 3 * 4 + 27)
        for one, other in itertools.product(all_lists("abc", 3), repeat=2):
            self.assertEqual(visits_alike(one, other), form_by(one) == form_by(other))

    def test_alike(self):
        self.assertTrue(visits_alike(["a", "b", "a", "b"], ["a", "b"]))
        self.assertFalse(visits_alike(one=["b", "a", "b"], other=["a", "b"]))
        self.assertTrue(visits_alike([], []))
        for name in NO_NAMES:
            self.assertEqual(error_of(visits_alike, ["a", name], ["B"]), (InvalidName, name))
            self.assertEqual(error_of(visits_alike, ["a"], [name]), (InvalidName, name))
            self.assertEqual(error_of(visit_form, ["a", name, "B"]), (InvalidName, name))

    def test_at_the_limits(self):
        chance = random.Random(2)
        for _ in range(20):
            visits = random_visits(chance, PLACES, 60)
            trail = chance.sample(PLACES, chance.randrange(21))
            self.assertEqual(by_form(visit_form(visits), trail), after(trail, visits))


class FormErrorsTest(unittest.TestCase):
    def calls(self):
        return [lambda form: by_form(form, ["b"]), shortest_visits, lambda form: joined_visits(form, ("B", [])),
                lambda form: joined_visits(EMPTY, form), kept_trails]

    def test_what_is_no_form(self):
        forms = {str(visit_form(visits)) for visits in all_lists("abc", 6)}
        told = 0
        for form in all_tuples(["a", "b", "c"]):
            for call in self.calls()[:2] + self.calls()[3:]:
                expected = None if str(form) in forms else (InvalidValue, form)
                self.assertEqual(error_of(call, form), expected)
            told += str(form) in forms
        self.assertEqual(told, len(forms))

    def test_names_come_first(self):
        for name in NO_NAMES:
            for call in self.calls():
                self.assertEqual(error_of(call, (name, [("B", "B")])), (InvalidName, name))
                self.assertEqual(error_of(call, ("b", [("a", "a"), (name, "B"), ("B", "a")])), (InvalidName, name))
                self.assertEqual(error_of(call, ("b", [("a", name), ("B", "a")])), (InvalidName, name))
                self.assertEqual(error_of(call, (None, [("a", name)])), (InvalidName, name))

    def test_the_form_comes_ahead_of_the_trail(self):
        self.assertEqual(error_of(by_form, ("a", []), ["B"]), (InvalidValue, ("a", [])))
        self.assertEqual(error_of(by_form, EMPTY, ["a", "B", "a"]), (InvalidName, "B"))
        self.assertEqual(error_of(by_form, EMPTY, ["a", "b", "a"]), (UnknownPlace, "a"))
        self.assertEqual(error_of(joined_visits, (None, [("a", "a")]), ("B", [])), (InvalidValue, (None, [("a", "a")])))


class ApartTest(unittest.TestCase):
    def test_examples(self):
        self.assertEqual(trail_apart(["a", "b"], ["b"]), [])
        self.assertIsNone(trail_apart(one=["a", "b", "a", "b"], other=["a", "b"]))
        self.assertIsNone(trail_apart([], []))
        self.assertEqual(trail_apart([], ["a"]), [])
        # Only a further place behind the one that the second list does not visit parts them.
        self.assertEqual(trail_apart(["a", "x", "a"], ["a"]), ["x", "b"])

    def test_all_visits(self):
        lists = all_lists("ac", 3) + all_lists("acd", 4)[::5]
        for one, other in itertools.product(lists, lists[::2]):
            visited = set(one + other)
            further = [name for name in "abcdefgh" if name not in visited][0]
            apart = [trail for trail in trails_of(visited | {further}) if after(trail, one) != after(trail, other)]
            self.assertEqual(trail_apart(one, other), apart[0] if apart else None)

    def test_the_further_place(self):
        self.assertEqual(trail_apart(["a", "z", "a"], ["a"]), ["z", "b"])
        self.assertEqual(trail_apart(["a"], ["a", "b", "a"]), ["b", "c"])
        # All places lead to a: one list visits 20 letters, the other one the rest, so that the further one is aa.
        one = [name for letter in "bcdefghijklmnopqrst" for name in ("a", letter)] + ["a"]
        other = [name for letter in "uvwxyz" for name in ("a", letter)] + ["a"]
        self.assertEqual(trail_apart(one, other), ["b", "aa"])

    def test_at_the_limits(self):
        chance = random.Random(3)
        for _ in range(5):
            one, other = random_visits(chance, PLACES, 60), random_visits(chance, PLACES[:19] + ["k"], 60)
            trail = trail_apart(one, other)
            self.assertNotEqual(after(trail, one), after(trail, other))
            self.assertIsNone(trail_apart(one, one[:1] + shortest_visits(visit_form(one))))

    def test_errors(self):
        for name in NO_NAMES:
            self.assertEqual(error_of(trail_apart, ["a", name], ["B"]), (InvalidName, name))
            self.assertEqual(error_of(trail_apart, ["a"], ["a", name]), (InvalidName, name))


class ShortestTest(unittest.TestCase):
    def test_examples(self):
        self.assertEqual(shortest_visits(("a", [("a", "b"), ("b", "b")])), ["a", "b"])
        self.assertEqual(shortest_visits(form=EMPTY), [])
        self.assertEqual(shortest_visits(("a", [("a", "a"), ("b", "a"), ("c", "a")])), ["a", "b", "a", "c", "a"])
        self.assertEqual(shortest_visits(("c", [("a", "a"), ("b", "a"), ("c", "a")])), ["c", "a", "b", "a"])

    def test_all_visits(self):
        found = first_visits("abc", 7)
        self.assertEqual(len(found), 1 + 3 + 3 * 4 + 27)
        for form, visits in found:
            self.assertEqual(shortest_visits(form), visits)

    def test_four_places(self):
        for form, visits in first_visits("abcd", 7):
            self.assertEqual(shortest_visits(form), visits)

    def test_at_the_limits(self):
        chance = random.Random(4)
        for _ in range(20):
            form = visit_form(random_visits(chance, PLACES, 60))
            self.assertEqual(visit_form(shortest_visits(form)), form)


class BetweenTest(unittest.TestCase):
    def test_examples(self):
        self.assertEqual(visits_between(["a", "b", "c"], ["a", "d"]), ["a", "d"])
        self.assertIsNone(visits_between(trail=["a", "b"], goal=["b"]))
        self.assertEqual((visits_between([], []), visits_between(["a"], ["a"])), ([], []))
        self.assertIsNone(visits_between(["a"], []))

    def test_all_trails(self):
        trails = trails_of("abcd")
        for trail in trails[:40]:
            reached = {}
            for visits in all_lists("abcd", 5):
                reached.setdefault(str(after(trail, visits)), visits)
            for goal in trails:
                self.assertEqual(visits_between(trail, goal), reached.get(str(goal)), (trail, goal))

    def test_errors(self):
        for name in NO_NAMES:
            self.assertEqual(error_of(visits_between, ["a", name], ["B"]), (InvalidName, name))
            self.assertEqual(error_of(visits_between, ["a"], ["a", name, "a"]), (InvalidName, name))
        self.assertEqual(error_of(visits_between, ["a", "a"], ["B"]), (UnknownPlace, "a"))
        self.assertEqual(error_of(visits_between, ["a"], ["a", "b", "b"]), (UnknownPlace, "b"))


class JoinedTest(unittest.TestCase):
    def test_examples(self):
        self.assertEqual(joined_visits(("a", [("a", "b"), ("b", "b")]), ("c", [("a", "a"), ("c", "a")])),
                         ("a", [("a", "a"), ("b", "c"), ("c", "a")]))
        form = ("a", [("a", "b"), ("b", "b")])
        self.assertEqual((joined_visits(form, EMPTY), joined_visits(one=EMPTY, other=form)), (form, form))
        self.assertEqual(joined_visits(EMPTY, EMPTY), EMPTY)

    def test_all_visits(self):
        for one, other in itertools.product(all_lists("abc", 4)[::3], all_lists("bcd", 4)[::4]):
            self.assertEqual(joined_visits(form_by(one), form_by(other)), form_by(one + other))

    def test_at_the_limits(self):
        chance = random.Random(5)
        for _ in range(20):
            one, other = random_visits(chance, PLACES, 60), random_visits(chance, PLACES[::2], 60)
            self.assertEqual(joined_visits(form_by(one), form_by(other)), form_by(one + other))


class KeptTest(unittest.TestCase):
    def test_examples(self):
        self.assertEqual(kept_trails(("a", [("a", "d"), ("b", "c"), ("c", "a"), ("d", "d")])),
                         [["d"], ["a", "d"], ["c", "a", "d"], ["b", "c", "a", "d"]])
        self.assertEqual(kept_trails(form=EMPTY), [[]])

    def test_all_trails(self):
        for visits in all_lists("abc", 5) + all_lists("abcd", 6)[-2000:]:
            kept = [trail for trail in trails_of(set(visits)) if after(trail, visits) == trail]
            self.assertEqual(kept_trails(form_by(visits)), kept)

    def test_at_the_limits(self):
        visits = random_visits(random.Random(6), PLACES, 60)
        kept = kept_trails(visit_form(visits))
        self.assertEqual(len(kept), len(set(visits)))
        self.assertTrue(all(after(trail, visits) == trail for trail in kept))


class WaysHomeTest(unittest.TestCase):
    def test_examples(self):
        self.assertEqual(ways_home(["a"], ["b", "a", "a"]), 1)
        self.assertEqual((ways_home(trail=[], visits=[]), ways_home(["a", "b", "c"], ["c", "b", "a", "a"])), (0, 2))

    def test_all_visits(self):
        for trail in trails_of("abc"):
            for visits in all_lists("abc", 4):
                trails = [after(trail, visits[:number]) for number in range(len(visits) + 1)]
                taken = [1 for one, other in zip(trails, trails[1:]) if not set(one) <= set(other)]
                self.assertEqual(ways_home(trail, visits), len(taken))

    def test_errors(self):
        for name in NO_NAMES:
            self.assertEqual(error_of(ways_home, ["a", name, "a"], ["B"]), (InvalidName, name))
            self.assertEqual(error_of(ways_home, ["a"], ["a", name]), (InvalidName, name))
        self.assertEqual(error_of(ways_home, ["a", "b", "a"], ["B"]), (UnknownPlace, "a"))
