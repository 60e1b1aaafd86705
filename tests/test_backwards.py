"""[15] and listwindow/backwards.py."""

import itertools
import random
import unittest
from math import lcm

from listwindow.backwards import comes_again, effect_times, marks_before, pair_against, ways_before
from listwindow.effects import effect_of, then
from listwindow.errors import InvalidMarks, InvalidNumber
from tests.support import error_of, shuffled, some_clicks, sublists
from tests.test_effects import EFFECT, all_effects, made_by

RING = [(1, True), (0, False)]


def times_naive(effect, times):
    told = [(row, False) for row in range(len(effect))]
    for _ in range(times):
        told = then(told, effect)
    return told


def random_effect(chance, rows):
    return [(chance.randrange(rows), chance.random() < 0.5) for _ in range(rows)]


def rings(lengths, turned):
    """An effect of rings of some lengths, each with one turned row if it is told so."""
    found = []
    for length, is_turned in zip(lengths, turned):
        start = len(found)
        found += [(start + (at + 1) % length, at == 0 and is_turned) for at in range(length)]
    return found


class EffectTimesTest(unittest.TestCase):
    def test_examples(self):
        self.assertEqual(effect_times([(0, True), (0, True), (2, False)], 10 ** 30), [(0, False), (0, False), (2, False)])
        self.assertEqual(effect_times(effect=RING, times=3), [(1, False), (0, True)])
        self.assertEqual(effect_times(EFFECT, 0), [(row, False) for row in range(5)])
        self.assertEqual(effect_times([], 7), [])

    def test_one_after_the_other(self):
        chance = random.Random(1)
        for effect in all_effects(2) + [random_effect(chance, rows) for rows in (3, 4, 5, 6, 40, 40)]:
            for times in range(18):
                self.assertEqual(effect_times(effect, times), times_naive(effect, times))

    def test_times_of_thirty_digits(self):
        chance = random.Random(2)
        for effect in [RING] + [random_effect(chance, rows) for rows in (4, 7, 40)]:
            first, period = comes_again(effect)
            times = 10 ** 30 - 1
            self.assertEqual(effect_times(effect, times), times_naive(effect, first + (times - first) % period))

    def test_errors(self):
        for times in (-1, -10 ** 29):
            self.assertEqual(error_of(effect_times, EFFECT, times), (InvalidNumber, times))


class ComesAgainTest(unittest.TestCase):
    def test_examples(self):
        self.assertEqual(comes_again([(0, True), (0, True), (2, False)]), (1, 2))
        self.assertEqual(comes_again(effect=RING), (0, 4))
        self.assertEqual(comes_again([]), (0, 1))
        self.assertEqual(comes_again([(0, False)]), (0, 1))
        self.assertEqual(comes_again([(0, True)]), (0, 2))
        self.assertEqual(comes_again([(0, False), (0, False), (1, True)]), (2, 1))

    def test_against_the_definition(self):
        chance = random.Random(3)
        for effect in all_effects(2) + all_effects(3)[::2] + [random_effect(chance, rows) for rows in (5, 6, 7, 8) * 8]:
            seen = [times_naive(effect, 0)]
            while then(seen[-1], effect) not in seen:
                seen.append(then(seen[-1], effect))
            first = seen.index(then(seen[-1], effect))
            self.assertEqual(comes_again(effect), (first, len(seen) - first))

    def test_forty_rows(self):
        lengths = [3, 4, 5, 7, 11, 10]
        self.assertEqual(comes_again(rings(lengths, [False] * 6)), (0, lcm(*lengths)))
        self.assertEqual(comes_again(rings(lengths, [True] * 6)), (0, lcm(*[2 * length for length in lengths])))
        self.assertEqual(comes_again([(0, True)] + [(row, True) for row in range(39)]), (39, 2))
        self.assertEqual(comes_again([(0, False)] + [(row, True) for row in range(39)]), (39, 1))

    def test_of_clicks_the_period_is_one_or_two(self):
        chance = random.Random(4)
        for _ in range(60):
            there = shuffled(chance, range(9))[:chance.randrange(1, 10)]
            effect = effect_of(9, there, None, some_clicks(chance, len(there), chance.randrange(9)))
            self.assertIn(comes_again(effect)[1], (1, 2))


class BeforeTest(unittest.TestCase):
    def test_examples(self):
        self.assertEqual(marks_before(EFFECT, [2]), [1, 2])
        self.assertEqual(ways_before(EFFECT, [2]), 4)
        self.assertIsNone(marks_before(effect=EFFECT, marks=[1]))
        self.assertEqual(ways_before(effect=EFFECT, marks=[1]), 0)
        self.assertEqual(pair_against(effect=EFFECT, marks=[1]), (1, 3))
        self.assertIsNone(pair_against(EFFECT, [2]))
        self.assertEqual((marks_before([], []), ways_before([], []), pair_against([], [])), ([], 1, None))

    def test_against_all_marks(self):
        for effect in all_effects(2) + all_effects(3)[::2]:
            rows = range(len(effect))
            for marks in sublists(rows):
                before = [told for told in sublists(rows) if made_by(effect, told) == marks]
                self.assertEqual(ways_before(effect, marks), len(before))
                self.assertEqual(marks_before(effect, marks), before[0] if before else None)
                # The fewest marks are the only ones of so many.
                self.assertLessEqual(len([told for told in before if len(told) == len(before[0])]), 1)
                pairs = [(one, other) for one, other in itertools.combinations(rows, 2)
                         if effect[one][0] == effect[other][0] and
                         ((one in marks) != effect[one][1]) != ((other in marks) != effect[other][1])]
                self.assertEqual(pair_against(effect, marks), min(pairs, default=None))
                self.assertIs(pair_against(effect, marks) is None, bool(before))

    def test_forty_rows(self):
        lost = [(0, row % 2 == 1) for row in range(40)]
        self.assertEqual(ways_before(lost, list(range(0, 40, 2))), 2 ** 39)
        self.assertEqual(marks_before(lost, list(range(1, 40, 2))), [])
        self.assertEqual(marks_before(lost, list(range(0, 40, 2))), [0])
        self.assertEqual(pair_against(lost, list(range(0, 39, 2))[:-1]), (0, 38))
        about = [(39 - row, False) for row in range(40)]
        self.assertEqual(marks_before(about, [7, 15, 23, 31, 39]), [0, 8, 16, 24, 32])
        plain = [(row, False) for row in range(40)]
        self.assertEqual((marks_before(plain, [3, 39]), ways_before(plain, [3, 39])), ([3, 39], 1))

    def test_errors(self):
        for call in (marks_before, ways_before, pair_against):
            for marks in ([2, 1], [1, 1], [5], [-1, 0], [0, 4, 4]):
                self.assertEqual(error_of(call, EFFECT, marks), (InvalidMarks, marks))
            self.assertEqual(error_of(call, [], [0]), (InvalidMarks, [0]))
