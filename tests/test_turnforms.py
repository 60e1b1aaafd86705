"""[18] and listwindow/turnforms.py."""

import itertools
import random
import unittest

from listwindow.errors import InvalidNumber
from listwindow.rooms import effect_on
from listwindow.turnforms import is_short, room_apart, rooms_for, short_form, swing, turns_alike
from tests.support import error_of
from tests.test_rooms import GREAT, map_of, turn_lists


def naive_form(chance, turns):
    """The short form as [18] tells it: what can be done is done, one of them after the other, in any sequence."""
    turns = [turn for turn in turns if turn != 0]
    at = 0
    while at + 1 < len(turns):
        if (turns[at] > 0) == (turns[at + 1] > 0):
            turns[at:at + 2] = [turns[at] + turns[at + 1]]
        else:
            at += 1
    while True:
        ways = [(at - 1, at + 2) for at in range(1, len(turns) - 1)
                if abs(turns[at]) <= abs(turns[at - 1]) and abs(turns[at]) <= abs(turns[at + 1])]
        if len(turns) > 2 and abs(turns[0]) < abs(turns[1]) <= abs(turns[2]):
            ways.append((0, 2))
        if not ways:
            return turns
        start, end = chance.choice(ways)
        turns[start:end] = [sum(turns[start:end])]


def maps_of(turns, greatest):
    """Where turns lead each scroll of each single room up to a size."""
    return tuple([map_of(size, turns) for size in range(greatest + 1)])


def long_turns(seed, number=60, great=GREAT):
    chance = random.Random(seed)
    return [chance.choice([-1, 1]) * chance.randrange(great + 1) for _ in range(number)]


def dwindling(number=60):
    """Turns of which none can be joined: each but the second one lesser than the one before it."""
    return [(-1) ** at * (10 ** 29 - at * 10 ** 27) for at in range(number)]


class ShortFormTest(unittest.TestCase):
    def test_examples(self):
        self.assertEqual([short_form([5, -2, 1]), short_form([1, 2, 0, -1]), short_form([3, -3, 3]),
                          short_form([2, -5, 3, -1]), short_form([1, -2, 3])],
                         [[5, -2, 1], [3, -1], [3], [2, -5, 3, -1], [-1, 3]])
        self.assertEqual((short_form(turns=[]), short_form([0, 0]), short_form([-1, 0, -1])), ([], [], [-2]))
        self.assertEqual((short_form([2, -2, 5]), short_form([2, -2]), short_form([1, -2, 2])), ([5], [2, -2], [-1, 2]))

    def test_against_the_words(self):
        chance = random.Random(1)
        for turns in turn_lists(4, 3):
            self.assertEqual(short_form(turns), naive_form(chance, turns))
            self.assertIs(is_short(turns), naive_form(chance, turns) == turns)
        for seed in range(30):
            turns = long_turns(seed, 60, chance.choice([4, 30, GREAT]))
            self.assertEqual(short_form(turns), naive_form(chance, turns))
            form = short_form(turns)
            self.assertTrue(is_short(form))
            self.assertTrue(all(abs(one) > abs(other) for one, other in zip(form[1:], form[2:])))

    def test_lists_with_one_form_do_the_same_to_all_rooms_and_no_others(self):
        by_form, by_maps = {}, {}
        for turns in turn_lists(4, 2) + turn_lists(3, 4):
            form, maps = tuple(short_form(turns)), maps_of(turns, 13)
            self.assertEqual(by_form.setdefault(form, maps), maps)
            self.assertEqual(by_maps.setdefault(maps, form), form)
            self.assertLessEqual(len(form), len(turns))

    def test_sixty_turns(self):
        self.assertTrue(is_short(dwindling()))
        self.assertEqual(short_form(dwindling()), dwindling())
        self.assertEqual(short_form([7] * 60), [420])
        self.assertEqual(short_form([7, -7] * 30), [7, -7])
        self.assertEqual(short_form([0] * 60), [])
        self.assertFalse(is_short([0] * 60))


class TurnsAlikeTest(unittest.TestCase):
    def test_turns_alike(self):
        self.assertIs(turns_alike([3, -3, 3], [3]), True)
        self.assertIs(turns_alike(one=[2, -1], other=[1]), False)
        for one, other in itertools.product(turn_lists(2, 2) + [[1, -2, 1], [2, -1, 2], [-1, 1, -1]], repeat=2):
            self.assertIs(turns_alike(one, other), maps_of(one, 7) == maps_of(other, 7))


class RoomApartTest(unittest.TestCase):
    def naive(self, one, other, greatest):
        for size in range(greatest + 1):
            mine, others = map_of(size, one), map_of(size, other)
            for scroll in range(size + 1):
                if mine[scroll] != others[scroll]:
                    return (size, scroll)
        return None

    def test_examples(self):
        self.assertEqual(room_apart([2, -1], [1]), (1, 0))
        self.assertIsNone(room_apart(one=[3, -3, 3], other=[3]))
        self.assertEqual(room_apart([1, -1], [-1]), (2, 1))
        self.assertEqual(room_apart([5], [3]), (4, 0))
        self.assertEqual(room_apart([2, -5, 3, -1], [2, -5, 2]), (1, 0))
        self.assertEqual(room_apart([], [0, 1]), (1, 0))

    def test_against_all_rooms(self):
        chance = random.Random(2)
        for one, other in itertools.product(turn_lists(2, 3) + [[1, -2, 1], [3, -2, 1], [-3, 2, -1]], repeat=2):
            self.assertEqual(room_apart(one, other), self.naive(one, other, 7))
        for _ in range(1500):
            one, other = [[chance.randrange(-4, 5) for _ in range(chance.randrange(6))] for _ in range(2)]
            self.assertEqual(room_apart(one, other), self.naive(one, other, 21))

    def test_lists_that_differ_little(self):
        chance = random.Random(3)
        for _ in range(600):
            sizes = sorted(chance.sample(range(1, 12), chance.randrange(2, 6)), reverse=True)
            one = [(-1) ** at * size for at, size in enumerate(sizes)]
            other = list(one)
            at = chance.randrange(len(other))
            other[at] += chance.choice([-1, 1])
            self.assertEqual(room_apart(one, other), self.naive(one, other, 14))

    def test_at_the_limits(self):
        one = dwindling()
        self.assertIsNone(room_apart(one, one[:1] + [0] + one[1:]))
        self.assertEqual(room_apart(one, one[:-1]), (1, 0))
        self.assertEqual(room_apart([GREAT - 1], [GREAT]), (GREAT, 0))
        self.assertEqual(room_apart([GREAT, 1 - GREAT], [GREAT, 1 - GREAT, GREAT - 1]), (1, 0))
        for seed in range(5):
            mine, others = long_turns(seed), long_turns(seed + 50)
            size, scroll = room_apart(mine, others)
            (shift, low, high), (shifted, least, greatest) = effect_on(size, mine), effect_on(size, others)
            self.assertNotEqual(max(low, min(high, scroll + shift)), max(least, min(greatest, scroll + shifted)))
            self.assertEqual(effect_on(size - 1, mine), effect_on(size - 1, others))


class SwingTest(unittest.TestCase):
    def test_swing(self):
        self.assertEqual(swing([2, -5, 3]), (-3, 2))
        self.assertEqual((swing(turns=[]), swing([4]), swing([-4]), swing([0])), ((0, 0), (0, 4), (-4, 0), (0, 0)))
        for turns in turn_lists(4, 2) + [long_turns(seed) for seed in range(3)]:
            sums = [sum(turns[:number]) for number in range(len(turns) + 1)]
            self.assertEqual(swing(turns), (min(sums), max(sums)))


class RoomsForTest(unittest.TestCase):
    def test_examples(self):
        self.assertEqual((rooms_for([5, -2, 1], 1), rooms_for([5, -2, 1], 4)), ((1, 2), (5, None)))
        self.assertEqual((rooms_for(turns=[], scroll=0), rooms_for([], 1)), ((0, None), None))
        self.assertEqual((rooms_for([3], 0), rooms_for([3], 2), rooms_for([3], 3)), ((0, 0), (2, 2), (3, None)))
        self.assertEqual(rooms_for([-3], 0), (0, None))

    def test_against_all_rooms(self):
        chance = random.Random(4)
        lists = turn_lists(3, 3) + [[chance.randrange(-5, 6) for _ in range(chance.randrange(9))] for _ in range(300)]
        for turns in lists:
            led = [map_of(size, turns)[0] for size in range(16)]
            for scroll in range(8):
                sizes = [size for size in range(16) if led[size] == scroll]
                told = (sizes[0], None if sizes[-1] == 15 else sizes[-1]) if sizes else None
                # In the greatest of these rooms nothing is lost any more, but if the turns go farther than it is.
                if sum(abs(turn) for turn in turns) <= 15:
                    self.assertEqual(rooms_for(turns, scroll), told)
                    self.assertEqual(sizes, list(range(sizes[0], sizes[-1] + 1)) if sizes else [])

    def test_at_the_limits(self):
        for turns in [dwindling()] + [long_turns(seed) for seed in range(5)]:
            for scroll in (0, 1, 10 ** 28, GREAT):
                told = rooms_for(turns, scroll)
                if told is None:
                    self.assertLess(effect_on(10 ** 40, turns)[1], scroll)
                    continue
                least, greatest = told
                self.assertEqual(effect_on(least, turns)[1], scroll)
                self.assertTrue(least == 0 or effect_on(least - 1, turns)[1] < scroll)
                if greatest is None:
                    self.assertEqual(effect_on(10 ** 40, turns)[1], scroll)
                else:
                    self.assertEqual(effect_on(greatest, turns)[1], scroll)
                    self.assertGreater(effect_on(greatest + 1, turns)[1], scroll)

    def test_errors(self):
        for scroll in (-1, -10 ** 59):
            self.assertEqual(error_of(rooms_for, [1], scroll), (InvalidNumber, scroll))
