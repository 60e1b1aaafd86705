"""[15] and listwindow/effects.py."""

import itertools
import random
import unittest

from listwindow.effects import (effect_of, first_marks_apart, forgotten, marks_by, same_for, same_made, sources_rise,
                                then)
from listwindow.errors import InvalidDeed, InvalidMarks, InvalidNumber, InvalidPosition, InvalidRows
from tests.support import all_lists, error_of, mark_all, row_clicks, shuffled, some_clicks, sublists
from tests.test_marks import ANCHORS, THERE, WRONG_CLICKS

FEW = [2, 0, 1]
EFFECT = [(0, False), (1, True), (2, False), (1, True), (1, True)]


def all_effects(rows):
    """All effects for so many rows, those of no clicks among them."""
    return [list(told) for told in itertools.product(itertools.product(range(rows), [False, True]), repeat=rows)]


def made_by(effect, marks):
    return [row for row, (source, turned) in enumerate(effect) if (source in marks) != turned]


class EffectOfTest(unittest.TestCase):
    def test_examples(self):
        self.assertEqual(effect_of(5, THERE, None, [("click", 0), ("range", 2)]), EFFECT)
        self.assertEqual(effect_of(rows=2, there=[], anchor=1, clicks=[]), [(0, False), (1, False)])
        self.assertEqual(effect_of(0, [], None, []), [])
        self.assertEqual(effect_of(3, [2], None, [("range", 0)]), [(0, False), (1, False), (2, True)])
        self.assertEqual(effect_of(3, [2, 0], 0, [("range", 0)]), [(0, False), (1, False), (0, False)])

    def test_the_rows_have_the_marks_of_their_sources(self):
        for there in (FEW, [2, 0], [1]):
            for clicks in all_lists(row_clicks(len(there)), 3):
                for anchor in ANCHORS:
                    effect = effect_of(3, there, anchor, clicks)
                    self.assertTrue(sources_rise(there, effect))
                    for marks in sublists(range(3)):
                        self.assertEqual(marks_by(effect, marks), mark_all(there, marks, anchor, clicks)[0])
                    for row in set(range(3)) - set(there):
                        self.assertEqual(effect[row], (row, False))

    def test_at_the_limits(self):
        chance = random.Random(2)
        for _ in range(15):
            there = shuffled(chance, range(40))[:chance.choice([40, 30])]
            clicks = some_clicks(chance, len(there), 60)
            effect = effect_of(40, there, chance.choice(ANCHORS), clicks)
            self.assertTrue(sources_rise(there, effect))
        for anchor in ANCHORS:
            effect = effect_of(40, there, anchor, clicks)
            for marks in ([], list(range(40)), list(range(0, 40, 2))):
                self.assertEqual(marks_by(effect, marks), mark_all(there, marks, anchor, clicks)[0])

    def test_errors(self):
        self.assertEqual(error_of(effect_of, -1, [0, 0], None, [()]), (InvalidNumber, -1))
        self.assertEqual(error_of(effect_of, 3, [0, 0], None, [()]), (InvalidRows, [0, 0]))
        for there in ([3], [-1, 0], [0, 9, 1]):
            self.assertEqual(error_of(effect_of, 3, there, None, [()]), (InvalidRows, there))
        for click in WRONG_CLICKS:
            self.assertEqual(error_of(effect_of, 3, FEW, None, [("click", 7), click]), (InvalidDeed, click))
        for position in (3, -1):
            self.assertEqual(error_of(effect_of, 3, FEW, None, [("click", 2), ("range", position), ("click", 8)]),
                             (InvalidPosition, position))
        self.assertEqual(error_of(effect_of, 0, [], None, [("click", 0)]), (InvalidPosition, 0))
        self.assertEqual(effect_of(1, [0], None, [("click", 0)]), [(0, True)])


class MarksByTest(unittest.TestCase):
    def test_examples(self):
        self.assertEqual(marks_by(EFFECT, [1, 2]), [2])
        self.assertEqual(marks_by(effect=EFFECT, marks=[]), [1, 3, 4])
        self.assertEqual(marks_by([], []), [])

    def test_all_effects(self):
        for effect in all_effects(2) + all_effects(3):
            for marks in sublists(range(len(effect))):
                self.assertEqual(marks_by(effect, marks), made_by(effect, marks))

    def test_errors(self):
        for marks in ([2, 1], [1, 1], [5], [-1, 0], [0, 4, 4]):
            self.assertEqual(error_of(marks_by, EFFECT, marks), (InvalidMarks, marks))
        self.assertEqual(error_of(marks_by, [], [0]), (InvalidMarks, [0]))


class ThenTest(unittest.TestCase):
    def test_examples(self):
        self.assertEqual(then(EFFECT, EFFECT), [(0, False), (1, False), (2, False), (1, False), (1, False)])
        self.assertEqual(then(one=[], other=[]), [])

    def test_one_and_then_the_other(self):
        for one, other in itertools.product(all_effects(2), repeat=2):
            for marks in sublists(range(2)):
                self.assertEqual(made_by(then(one, other), marks), made_by(other, made_by(one, marks)))
        chance = random.Random(6)
        every = all_effects(3)
        for _ in range(200):
            one, other = chance.choice(every), chance.choice(every)
            for marks in sublists(range(3)):
                self.assertEqual(made_by(then(one, other), marks), made_by(other, made_by(one, marks)))

    def test_clicks_and_then_clicks(self):
        chance = random.Random(7)
        for _ in range(50):
            there = shuffled(chance, range(5))[:chance.randrange(1, 6)]
            one, other = [some_clicks(chance, len(there), 4) for _ in range(2)]
            _, anchor = mark_all(there, [], None, one)
            joined = then(effect_of(5, there, None, one), effect_of(5, there, anchor, other))
            self.assertEqual(joined, effect_of(5, there, None, one + other))

    def test_errors(self):
        self.assertEqual(error_of(then, EFFECT, [(0, False)]), (InvalidNumber, 1))
        self.assertEqual(error_of(then, [], EFFECT), (InvalidNumber, 5))


class SourcesRiseTest(unittest.TestCase):
    def test_examples(self):
        self.assertIs(sources_rise(THERE, EFFECT), True)
        self.assertIs(sources_rise(there=[], effect=EFFECT), True)
        self.assertIs(sources_rise([0, 1], [(1, False), (0, False)]), False)
        self.assertIs(sources_rise([0, 1], [(1, False), (1, True)]), True)
        self.assertIs(sources_rise([0, 1], [(0, False), (2, False), (2, False)]), False)
        self.assertIs(sources_rise([1, 0], [(1, False), (1, False)]), True)
        self.assertIs(sources_rise([1, 0], [(1, False), (0, False)]), False)

    def test_against_the_definition(self):
        for effect in all_effects(3):
            for there in ([2, 0, 1], [0, 1], [1, 0], [2], []):
                places = [there.index(effect[row][0]) if effect[row][0] in there else None for row in there]
                rise = None not in places and all(one <= other for one, other in itertools.pairwise(places))
                self.assertIs(sources_rise(there, effect), rise)

    def test_errors(self):
        for there in ([0, 0], [2], [-1], [0, 1, 2]):
            self.assertEqual(error_of(sources_rise, there, [(0, True), (0, True)]), (InvalidRows, there))


class SameTest(unittest.TestCase):
    def test_examples(self):
        self.assertIs(same_for(5, THERE, None, [("click", 0), ("click", 0)], [("click", 1), ("click", 0)]), False)
        self.assertIs(same_for(rows=5, there=THERE, anchor=None, one=[("click", 0), ("range", 0)],
                               other=[("click", 0)]), True)
        self.assertEqual(first_marks_apart(5, THERE, None, [("click", 0)], [("click", 0), ("range", 1)]), [])
        self.assertIsNone(first_marks_apart(rows=5, there=THERE, anchor=None, one=[("click", 3), ("click", 3)],
                                            other=[("click", 1), ("click", 1)]))
        self.assertEqual(first_marks_apart(5, THERE, 1, [("range", 0)], [("range", 4)]), [0])
        self.assertEqual(first_marks_apart(5, THERE, 4, [("range", 0)], [("range", 1)]), [1])

    def test_against_all_marks(self):
        lists = all_lists(row_clicks(2), 2)
        for there, anchor in itertools.product([[2, 0], [1, 2]], [None, 2, 9, 1]):
            for one, other in itertools.product(lists, repeat=2):
                made = [(mark_all(there, marks, anchor, one), mark_all(there, marks, anchor, other))
                        for marks in sublists(range(3))]
                self.assertIs(same_for(3, there, anchor, one, other), all(mine == others for mine, others in made))
                apart = [marks for marks, (mine, others) in zip(sublists(range(3)), made) if mine[0] != others[0]]
                self.assertEqual(first_marks_apart(3, there, anchor, one, other), apart[0] if apart else None)

    def test_three_rows(self):
        chance = random.Random(3)
        for _ in range(400):
            there = shuffled(chance, range(4))[:3]
            anchor = chance.choice(ANCHORS + there)
            one, other = [some_clicks(chance, 3, chance.randrange(1, 5)) for _ in range(2)]
            apart = [marks for marks in sublists(range(4))
                     if mark_all(there, marks, anchor, one)[0] != mark_all(there, marks, anchor, other)[0]]
            self.assertEqual(first_marks_apart(4, there, anchor, one, other), apart[0] if apart else None)

    def test_at_the_limits(self):
        chance = random.Random(4)
        there = shuffled(chance, range(40))
        clicks = some_clicks(chance, 40, 60)
        self.assertIs(same_for(40, there, 10 ** 59, clicks, clicks), True)
        self.assertIsNone(first_marks_apart(40, there, -1, clicks, clicks))
        self.assertIs(same_for(40, there, None, [("click", 0)] * 60, [("click", 0)] * 58), True)
        self.assertIs(same_for(40, there, None, [("click", 0)] * 60, [("click", 0)] * 59), False)

    def test_errors(self):
        for call in (same_for, first_marks_apart):
            self.assertEqual(error_of(call, -1, [0, 0], None, [()], [()]), (InvalidNumber, -1))
            self.assertEqual(error_of(call, 3, [0, 3], None, [()], [()]), (InvalidRows, [0, 3]))
            self.assertEqual(error_of(call, 3, [1, 1], None, [()], [()]), (InvalidRows, [1, 1]))
            for click in WRONG_CLICKS:
                self.assertEqual(error_of(call, 3, FEW, None, [("click", 7), click], [("x", 0)]), (InvalidDeed, click))
                self.assertEqual(error_of(call, 3, FEW, None, [], [("click", 7), click]), (InvalidDeed, click))
            self.assertEqual(error_of(call, 3, FEW, None, [("click", 3)], [("x", 0)]), (InvalidPosition, 3))
            self.assertEqual(error_of(call, 3, FEW, None, [], [("range", -1)]), (InvalidPosition, -1))


class SameMadeTest(unittest.TestCase):
    def test_same_made(self):
        self.assertIs(same_made(EFFECT, [1, 3], [1]), True)
        self.assertIs(same_made(effect=EFFECT, marks=[1], other=[2]), False)
        for effect in all_effects(2):
            for one, other in itertools.product(sublists(range(2)), repeat=2):
                self.assertIs(same_made(effect, one, other), made_by(effect, one) == made_by(effect, other))

    def test_errors(self):
        self.assertEqual(error_of(same_made, EFFECT, [1, 1], [5]), (InvalidMarks, [1, 1]))
        self.assertEqual(error_of(same_made, EFFECT, [1], [5]), (InvalidMarks, [5]))
        self.assertEqual(error_of(same_made, EFFECT, [-1], [5]), (InvalidMarks, [-1]))


class ForgottenTest(unittest.TestCase):
    def test_forgotten(self):
        self.assertEqual(forgotten(EFFECT), [3, 4])
        self.assertEqual(forgotten(effect=[]), [])
        # The marks of just these rows are lost: whatever they are, the effect makes the same.
        for effect in all_effects(2) + all_effects(3)[::3]:
            rows = range(len(effect))
            lost = [row for row in rows if all(made_by(effect, marks) == made_by(effect, sorted(set(marks) ^ {row}))
                                               for marks in sublists(rows))]
            self.assertEqual(forgotten(effect), lost)
