"""[17], [18] and listwindow/rooms.py."""

import itertools
import random
import unittest

from listwindow.errors import InvalidNumber, InvalidValue
from listwindow.rooms import (clipped, effect_on, effect_through, fewest_turns, joined_effect, lost, number_of_effects,
                              repeated_effect, room_of, turned_by, turns_for)
from tests.support import error_of

GREAT = 10 ** 30 - 1


def turn_by_turn(rooms, scrolls, turns):
    """The scrolls behind turns, and what is lost downward and upward, step by step of 1 as [17] tells them."""
    window, page = scrolls
    down = up = 0
    for turn in turns:
        for _ in range(abs(turn)):
            if turn > 0 and window < rooms[0]:
                window += 1
            elif turn > 0 and page < rooms[1]:
                page += 1
            elif turn < 0 and window > 0:
                window -= 1
            elif turn < 0 and page > 0:
                page -= 1
            elif turn > 0:
                down += 1
            else:
                up += 1
    return (window, page), (down, up)


def turn_lists(most, greatest):
    """All lists of turns up to a length, none greater than a number without signs."""
    return [list(told) for number in range(most + 1)
            for told in itertools.product(range(-greatest, greatest + 1), repeat=number)]


def map_of(size, turns):
    """Where turns lead each scroll of a single room."""
    return tuple([turn_by_turn((size, 0), (scroll, 0), turns)[0][0] for scroll in range(size + 1)])


def map_by(size, effect):
    shift, low, high = effect
    return tuple([max(low, min(high, scroll + shift)) for scroll in range(size + 1)])


def is_effect(size, shift, low, high):
    if not 0 <= low <= high <= size:
        return False
    return shift == 0 if low == high else high - size <= shift <= low


def all_effects(size):
    span = range(-size - 1, size + 2)
    return [told for told in itertools.product(span, repeat=3) if is_effect(size, *told)]


def by_length_and_sum(turns):
    return (len(turns), sum(abs(turn) for turn in turns), turns)


class RoomOfTest(unittest.TestCase):
    def test_room_of(self):
        self.assertEqual([room_of(8, 5), room_of(3, 5), room_of(5, 5), room_of(0, 1), room_of(1, 1)], [3, 0, 0, 0, 0])
        self.assertEqual(room_of(lines=GREAT, height=1), GREAT - 1)

    def test_errors(self):
        self.assertEqual(error_of(room_of, -1, 0), (InvalidNumber, -1))
        for height in (0, -3):
            self.assertEqual(error_of(room_of, 4, height), (InvalidNumber, height))


class TurnedByTest(unittest.TestCase):
    def test_examples(self):
        self.assertEqual(turned_by((3, 4), (0, 0), [5, -2, 1]), (2, 2))
        self.assertEqual(lost((3, 4), (1, 0), [9, -9, 2]), (3, 2))
        self.assertEqual(turned_by(rooms=(3, 4), scrolls=(1, 2), turns=[]), (1, 2))
        self.assertEqual(lost(rooms=(0, 0), scrolls=(0, 0), turns=[4, -3, 2]), (6, 3))
        self.assertEqual(turned_by((3, 4), (1, 4), [3]), (3, 4))
        self.assertEqual(turned_by((3, 4), (3, 0), [-9]), (0, 0))

    def test_tick_by_tick(self):
        for rooms in itertools.product(range(3), repeat=2):
            for scrolls in itertools.product(range(rooms[0] + 1), range(rooms[1] + 1)):
                for turns in turn_lists(2, 5) + [[2, -3, 1], [-1, 4, -2], [0, 5, 0, -5, 1]]:
                    told = turn_by_turn(rooms, scrolls, turns)
                    self.assertEqual((turned_by(rooms, scrolls, turns), lost(rooms, scrolls, turns)), told)

    def test_both_move_as_a_single_room(self):
        for turns in turn_lists(3, 3)[::5]:
            window, page = turned_by((2, 3), (1, 2), turns)
            self.assertEqual(window + page, map_of(5, turns)[3])

    def test_at_the_limits(self):
        rooms = (GREAT, GREAT)
        self.assertEqual(turned_by(rooms, (0, 5), [GREAT, 7, -GREAT, 3] * 15), (3, 5 + 7 * 15 + 3 * 14))
        self.assertEqual(turned_by(rooms, (GREAT, GREAT), [GREAT, -1]), (GREAT - 1, GREAT))
        self.assertEqual(lost(rooms, (GREAT, GREAT), [GREAT] * 30 + [-GREAT] * 30), (30 * GREAT, 28 * GREAT))

    def test_errors(self):
        for call, rest in ((turned_by, [[1]]), (lost, [[1]]), (fewest_turns, [(9, 9)])):
            self.assertEqual(error_of(call, (-1, -2), (9, 9), *rest), (InvalidNumber, -1))
            self.assertEqual(error_of(call, (3, -2), (9, 9), *rest), (InvalidNumber, -2))
            self.assertEqual(error_of(call, (3, 4), (4, 9), *rest), (InvalidNumber, 4))
            self.assertEqual(error_of(call, (3, 4), (-1, 9), *rest), (InvalidNumber, -1))
            self.assertEqual(error_of(call, (3, 4), (3, 5), *rest), (InvalidNumber, 5))
            self.assertEqual(error_of(call, (3, 4), (3, -7), *rest), (InvalidNumber, -7))
        self.assertEqual(turned_by((3, 4), (3, 4), [1]), (3, 4))


class ClippedTest(unittest.TestCase):
    def test_clipped(self):
        self.assertEqual(clipped((2, 4), (3, 4)), (2, 4))
        self.assertEqual(clipped(rooms=(2, 4), scrolls=(-3, 7)), (0, 4))
        for rooms in itertools.product(range(3), repeat=2):
            for scrolls in itertools.product(range(-2, 5), repeat=2):
                self.assertEqual(clipped(rooms, scrolls), tuple(min(max(scroll, 0), room)
                                                                for room, scroll in zip(rooms, scrolls)))

    def test_errors(self):
        self.assertEqual(error_of(clipped, (-1, -2), (9, 9)), (InvalidNumber, -1))
        self.assertEqual(error_of(clipped, (0, -2), (9, 9)), (InvalidNumber, -2))


class EffectOnTest(unittest.TestCase):
    def test_examples(self):
        self.assertEqual([effect_on(3, [5, -2, 1]), effect_on(9, [5, -2, 1]), effect_on(5, [2, -1])],
                         [(0, 2, 2), (4, 4, 8), (1, 1, 4)])
        self.assertEqual((effect_on(size=0, turns=[4]), effect_on(7, [])), ((0, 0, 0), (0, 0, 7)))

    def test_against_tick_by_tick(self):
        for size in range(5):
            for turns in turn_lists(3, 3):
                shift, low, high = effect = effect_on(size, turns)
                self.assertEqual(map_by(size, effect), map_of(size, turns))
                self.assertEqual((low, high), (map_of(size, turns)[0], map_of(size, turns)[-1]))
                self.assertEqual(shift, sum(turns) if low < high else 0)
                self.assertTrue(is_effect(size, shift, low, high))

    def test_at_the_limits(self):
        turns = [GREAT, -GREAT] * 30
        self.assertEqual(effect_on(GREAT, turns), (0, 0, 0))
        self.assertEqual(effect_on(10 ** 29, [5 - 10 ** 29, 3]), (8 - 10 ** 29, 3, 8))
        self.assertEqual(error_of(effect_on, -1, turns), (InvalidNumber, -1))


class JoinedEffectTest(unittest.TestCase):
    def test_examples(self):
        self.assertEqual(joined_effect(5, (1, 1, 4), (1, 1, 4)), (2, 2, 4))
        self.assertEqual(joined_effect(size=0, one=(0, 0, 0), other=(0, 0, 0)), (0, 0, 0))

    def test_one_and_then_the_other(self):
        for size in range(4):
            for one, other in itertools.product(all_effects(size), repeat=2):
                told = joined_effect(size, one, other)
                self.assertTrue(is_effect(size, *told))
                self.assertEqual(map_by(size, told), tuple([map_by(size, other)[at] for at in map_by(size, one)]))

    def test_errors(self):
        self.assertEqual(error_of(joined_effect, -1, (1, 0, 0), (2, 0, 0)), (InvalidNumber, -1))
        self.assertEqual(error_of(joined_effect, 3, (1, 0, 0), (2, 0, 0)), (InvalidValue, (1, 0, 0)))
        self.assertEqual(error_of(joined_effect, 3, (0, 0, 0), (2, 0, 0)), (InvalidValue, (2, 0, 0)))

    def test_effects_that_are_none(self):
        for size in range(3):
            for told in itertools.product(range(-4, 5), repeat=3):
                error = None if is_effect(size, *told) else (InvalidValue, told)
                self.assertEqual(error_of(joined_effect, size, told, (0, 0, 0)), error)
                self.assertEqual(error_of(joined_effect, size, (0, 0, 0), told), error)
                self.assertEqual(error_of(repeated_effect, size, told, 1), error)
                self.assertEqual(error_of(turns_for, size, told), error)


class RepeatedEffectTest(unittest.TestCase):
    def test_examples(self):
        self.assertEqual(repeated_effect(5, (1, 1, 4), 10 ** 30), (0, 4, 4))
        self.assertEqual(repeated_effect(size=5, effect=(1, 1, 4), times=0), (0, 0, 5))
        self.assertEqual(repeated_effect(0, (0, 0, 0), 0), (0, 0, 0))
        self.assertEqual(repeated_effect(GREAT, (1, 1, GREAT), 10 ** 29), (10 ** 29, 10 ** 29, GREAT))

    def test_one_after_the_other(self):
        for size in range(5):
            for effect in all_effects(size):
                told = (0, 0, size)
                for times in range(9):
                    self.assertEqual(repeated_effect(size, effect, times), told)
                    told = joined_effect(size, told, effect)
                self.assertEqual(repeated_effect(size, effect, 10 ** 60 - 1), repeated_effect(size, effect, 8))

    def test_errors(self):
        self.assertEqual(error_of(repeated_effect, -1, (1, 0, 0), -2), (InvalidNumber, -1))
        self.assertEqual(error_of(repeated_effect, 3, (1, 0, 0), -2), (InvalidValue, (1, 0, 0)))
        self.assertEqual(error_of(repeated_effect, 3, (0, 0, 0), -2), (InvalidNumber, -2))


class EffectThroughTest(unittest.TestCase):
    def test_examples(self):
        self.assertEqual(effect_through([5, 4, 6], [1, 2]), (3, 3, 4))
        self.assertEqual(effect_through(sizes=[5], turns=[]), (0, 0, 5))
        self.assertEqual(effect_through([5, 0, 6], [1, 2]), (0, 0, 0))
        self.assertEqual(effect_through([0, 9], [5]), (0, 0, 0))

    def test_against_tick_by_tick(self):
        for sizes in itertools.product(range(4), repeat=3):
            for turns in turn_lists(2, 3):
                if len(turns) == 2:
                    shift, low, high = effect_through(list(sizes), turns)
                    for scroll in range(sizes[0] + 1):
                        there = scroll
                        for size, turn, after in zip(sizes, turns, sizes[1:]):
                            there = min(turn_by_turn((size, 0), (there, 0), [turn])[0][0], after)
                        self.assertEqual(max(low, min(high, scroll + shift)), there)
                    self.assertEqual(shift, sum(turns) if low < high else 0)

    def test_one_size_all_along(self):
        chance = random.Random(1)
        for _ in range(40):
            turns = [chance.randrange(-9, 10) for _ in range(60)]
            size = chance.randrange(30)
            self.assertEqual(effect_through([size] * 61, turns), effect_on(size, turns))

    def test_errors(self):
        self.assertEqual(error_of(effect_through, [3, -1, -2], [1]), (InvalidNumber, -1))
        for sizes, turns in (([3, 4], []), ([3], [1]), ([], []), ([3, 4], [1, 2, 3])):
            self.assertEqual(error_of(effect_through, sizes, turns), (InvalidNumber, len(turns)))


class TurnsForTest(unittest.TestCase):
    def test_examples(self):
        self.assertEqual([turns_for(5, (1, 1, 4)), turns_for(5, (0, 2, 2)), turns_for(5, (0, 1, 4))],
                         [[2, -1], [-5, 2], [-1, 2, -1]])
        self.assertEqual(turns_for(size=0, effect=(0, 0, 0)), [])
        self.assertEqual((turns_for(4, (0, 0, 4)), turns_for(4, (0, 2, 2)), turns_for(5, (0, 3, 3))),
                         ([], [-4, 2], [5, -2]))

    def test_against_all_lists(self):
        for size in range(5):
            first = {}
            for turns in sorted(turn_lists(3, size + 1), key=by_length_and_sum):
                first.setdefault(effect_on(size, turns), turns)
            for effect in all_effects(size):
                self.assertEqual(turns_for(size, effect), first[effect])

    def test_at_the_limits(self):
        for effect in [(3, 5, GREAT - 7), (-4, 0, GREAT - 4), (0, 7, 7), (0, GREAT - 9, GREAT - 9), (0, 0, GREAT)]:
            turns = turns_for(GREAT, effect)
            self.assertLessEqual(len(turns), 3)
            self.assertEqual(effect_on(GREAT, turns), effect)

    def test_errors(self):
        self.assertEqual(error_of(turns_for, -1, (1, 0, 0)), (InvalidNumber, -1))


class NumberOfEffectsTest(unittest.TestCase):
    def test_number_of_effects(self):
        self.assertEqual([number_of_effects(0), number_of_effects(1), number_of_effects(2)], [1, 3, 8])
        for size in range(7):
            self.assertEqual(number_of_effects(size), len(all_effects(size)))
        for size in range(4):
            self.assertEqual(number_of_effects(size), len({map_of(size, turns) for turns in turn_lists(3, size)}))
        self.assertEqual(number_of_effects(size=10 ** 29),
                         10 ** 29 + 1 + 10 ** 29 * (10 ** 29 + 1) * (2 * 10 ** 29 + 1) // 6)

    def test_errors(self):
        self.assertEqual(error_of(number_of_effects, -1), (InvalidNumber, -1))


class FewestTurnsTest(unittest.TestCase):
    def test_examples(self):
        self.assertEqual([fewest_turns((3, 4), (0, 0), (3, 2)), fewest_turns((3, 4), (3, 2), (1, 2)),
                          fewest_turns((3, 4), (0, 0), (0, 2))], [[5], [-2], [5, -3]])
        self.assertEqual(fewest_turns(rooms=(3, 4), scrolls=(2, 1), goal=(2, 1)), [])
        self.assertEqual(fewest_turns((3, 4), (2, 3), (1, 1)), [-4, 1])
        self.assertEqual(fewest_turns((0, 4), (0, 3), (0, 1)), [-2])

    def test_against_all_lists(self):
        for rooms in itertools.product(range(4), range(3)):
            every = sorted(turn_lists(2, sum(rooms) + 1), key=by_length_and_sum)
            stands = list(itertools.product(range(rooms[0] + 1), range(rooms[1] + 1)))
            for scrolls in stands:
                first = {}
                for turns in every:
                    first.setdefault(turned_by(rooms, scrolls, turns), turns)
                for goal in stands:
                    self.assertEqual(fewest_turns(rooms, scrolls, goal), first[goal])

    def test_at_the_limits(self):
        rooms = (GREAT, GREAT)
        for scrolls, goal in itertools.product([(0, 0), (7, GREAT), (GREAT, 3)], repeat=2):
            turns = fewest_turns(rooms, scrolls, goal)
            self.assertEqual(turned_by(rooms, scrolls, turns), goal)
            self.assertLessEqual(len(turns), 2)

    def test_errors(self):
        self.assertEqual(error_of(fewest_turns, (3, 4), (0, 0), (4, 9)), (InvalidNumber, 4))
        self.assertEqual(error_of(fewest_turns, (3, 4), (0, 0), (-2, 9)), (InvalidNumber, -2))
        self.assertEqual(error_of(fewest_turns, (3, 4), (0, 0), (3, 5)), (InvalidNumber, 5))
