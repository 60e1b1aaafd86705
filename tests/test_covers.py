"""[16] and listwindow/covers.py."""

import itertools
import random
import unittest

from listwindow.covers import clicks_of_cover, count_covers, cover_at, idle_clicks, is_cheapest, makers
from listwindow.errors import InvalidDeed, InvalidMarks, InvalidNumber, InvalidPosition, InvalidRows, InvalidValue
from listwindow.marks import borders, cost
from tests.support import all_lists, error_of, mark_all, row_clicks, shuffled, some_clicks, sublists
from tests.test_marks import THERE, WRONG_CLICKS

THERES = [[], [4], [1, 0], [2, 0, 1], [2, 0, 1, 3], [5, 2, 0, 1, 3, 4]]


def all_covers(told):
    """All covers of some borders: ascending lists of tokens that have each border once."""
    if not told:
        return [[]]
    found = [[(told[0],)] + rest for rest in all_covers(told[1:])]
    if told[1:2] == [told[0] + 1]:
        found += [[(told[0], told[1])] + rest for rest in all_covers(told[2:])]
    return found


def best_covers(there, marks):
    found = all_covers(borders(there, marks))
    fewest = min(map(len, found))
    return sorted([cover for cover in found if len(cover) == fewest])


def naive_clicks(cover):
    alone = [token[0] for token in cover if len(token) == 1]
    clicks = []
    while alone:
        first, other, *alone = alone
        clicks += [("click", first), ("range", other - 1)]
    return clicks + [("click", token[0]) for token in cover if len(token) == 2]


class CoversTest(unittest.TestCase):
    def test_examples(self):
        self.assertEqual(count_covers(THERE, [0, 1, 3]), 2)
        self.assertEqual(cover_at(THERE, [0, 1, 3], 0), [(0,), (1, 2), (4,)])
        self.assertEqual(cover_at(there=THERE, marks=[0, 1, 3], index=1), [(0, 1), (2,), (4,)])
        self.assertEqual(clicks_of_cover(there=THERE, marks=[0, 1, 3], cover=[(0, 1), (2,), (4,)]),
                         [("click", 2), ("range", 3), ("click", 0)])
        self.assertEqual((count_covers(there=[], marks=[]), cover_at([], [], 0), clicks_of_cover([], [], [])), (1, [], []))
        self.assertEqual((count_covers([3], [3]), cover_at([3], [3], 0)), (1, [(0, 1)]))

    def test_against_all_covers(self):
        for there in THERES:
            for marks in sublists(there):
                best = best_covers(there, marks)
                self.assertEqual(count_covers(there, marks), len(best))
                for index, cover in enumerate(best):
                    self.assertEqual(len(cover), cost(there, marks))
                    self.assertEqual(cover_at(there, marks, index), cover)
                    clicks = clicks_of_cover(there, marks, cover)
                    self.assertEqual(clicks, naive_clicks(cover))
                    self.assertEqual(mark_all(there, [], None, clicks)[0], marks)
                    self.assertIs(is_cheapest(there, marks, clicks), True)

    def test_forty_rows(self):
        there = list(range(39, -1, -1))
        odd = [39 - at for at in list(range(0, 5)) + [6, 8, 10] + list(range(14, 22)) + [23, 25, 26, 36, 38]]
        for marks in (sorted(odd), [], list(range(40)), list(range(0, 40, 2)), list(range(1, 40, 2))):
            best = best_covers(there, marks) if len(marks) == len(odd) else []
            number = count_covers(there, marks)
            self.assertTrue(not best or number == len(best))
            for index in sorted({0, number // 2, number - 1}):
                cover = cover_at(there, marks, index)
                self.assertTrue(not best or cover == best[index])
                clicks = clicks_of_cover(there, marks, cover)
                self.assertEqual((mark_all(there, [], None, clicks)[0], len(clicks)), (marks, cost(there, marks)))
            self.assertEqual(error_of(cover_at, there, marks, number), (InvalidNumber, number))

    def test_errors_of_marks(self):
        for call, rest in ((count_covers, []), (cover_at, [-1]), (clicks_of_cover, [[(9,)]]), (is_cheapest, [[()]])):
            self.assertEqual(error_of(call, [5, 2, 2], [2, 1], *rest), (InvalidRows, [5, 2, 2]))
            for marks in ([2, 1], [1, 1], [0, 9], [-1, 0]):
                self.assertEqual(error_of(call, THERE, marks, *rest), (InvalidMarks, marks))

    def test_errors_of_an_index(self):
        for index in (-1, 2, 10 ** 59):
            self.assertEqual(error_of(cover_at, THERE, [0, 1, 3], index), (InvalidNumber, index))
        self.assertEqual(error_of(cover_at, [], [], 1), (InvalidNumber, 1))

    def test_covers_that_are_none_or_not_best(self):
        for cover in ([], [(0,), (1,), (2,), (4,)], [(0,), (1, 2)], [(1, 2), (0,), (4,)], [(0,), (2, 1), (4,)],
                      [(0,), (1, 2), (5,)], [(0, 1, 2), (4,)], [(0,), (1, 2), (4,), ()], [(0, 1), (2, 4)],
                      [(0,), (0,), (1, 2), (4,)], [(0, 1), (1, 2), (4,)], [(), (0, 1, 2), (4,)]):
            self.assertEqual(error_of(clicks_of_cover, THERE, [0, 1, 3], cover), (InvalidValue, cover))
        for cover in ([(0, 2), (4,), (5,)], [(0, 4), (2,), (5,)], [(0,), (2, 4), (5,)]):
            self.assertEqual(error_of(clicks_of_cover, [0, 1, 2, 3, 4], [0, 1, 4], cover), (InvalidValue, cover))
        self.assertEqual(error_of(clicks_of_cover, [], [], [()]), (InvalidValue, [()]))
        self.assertEqual(error_of(clicks_of_cover, [3], [3], [(0,), (1,)]), (InvalidValue, [(0,), (1,)]))

    def test_all_lists_of_tokens(self):
        tokens = [(), (0,), (1,), (2,), (0, 1), (1, 2), (0, 2), (2, 3), (0, 1, 2), (3,)]
        there, marks = [2, 0, 1], [1, 2]
        best = best_covers(there, marks)
        for cover in all_lists(tokens, 3):
            told = error_of(clicks_of_cover, there, marks, cover)
            self.assertEqual(told, None if cover in best else (InvalidValue, cover))


class IsCheapestTest(unittest.TestCase):
    def test_examples(self):
        self.assertIs(is_cheapest(THERE, [0, 1, 3], [("click", 0), ("click", 2), ("click", 3)]), True)
        self.assertIs(is_cheapest(there=THERE, marks=[0, 1, 3], clicks=[("click", 0)]), False)
        self.assertIs(is_cheapest(THERE, [], [("click", 0), ("click", 0)]), False)
        self.assertIs(is_cheapest([], [], []), True)

    def test_against_all_lists(self):
        for there in ([2, 0, 1], [1, 0]):
            every = all_lists(row_clicks(len(there)), 3)
            for marks in sublists(there):
                leading = [clicks for clicks in every if mark_all(there, [], None, clicks)[0] == marks]
                fewest = min(map(len, leading))
                for clicks in every:
                    self.assertIs(is_cheapest(there, marks, clicks), clicks in leading and len(clicks) == fewest)

    def test_errors(self):
        for click in WRONG_CLICKS:
            self.assertEqual(error_of(is_cheapest, THERE, [0], [("click", 9), click]), (InvalidDeed, click))
        self.assertEqual(error_of(is_cheapest, THERE, [0], [("click", 4), ("range", 5)]), (InvalidPosition, 5))


class MakersTest(unittest.TestCase):
    def naive_makers(self, there, clicks):
        stands = [borders(there, mark_all(there, [], None, clicks[:number])[0]) for number in range(len(clicks) + 1)]
        return [(border, max(index for index in range(len(clicks))
                             if border not in stands[index] and border in stands[index + 1])) for border in stands[-1]]

    def test_examples(self):
        clicks = [("click", 0), ("range", 3), ("range", 1)]
        self.assertEqual(makers(THERE, clicks), [(0, 0), (4, 1)])
        self.assertEqual(makers(there=THERE, clicks=[("click", 2)] * 3), [(2, 2), (3, 2)])
        self.assertEqual(idle_clicks(THERE, clicks), [2])
        self.assertEqual(idle_clicks(there=THERE, clicks=[("click", 2)] * 3), [0, 1])
        self.assertEqual((makers([], []), idle_clicks([], []), idle_clicks([2], [("range", 0)])), ([], [], []))

    def test_against_the_definition(self):
        for there in ([2, 0, 1], [1, 0], [3]):
            for clicks in all_lists(row_clicks(len(there)), 4 if len(there) < 3 else 3):
                told = self.naive_makers(there, clicks)
                self.assertEqual(makers(there, clicks), told)
                busy = [index for _, index in told]
                self.assertEqual(idle_clicks(there, clicks), [at for at in range(len(clicks)) if at not in busy])

    def test_at_the_limits(self):
        chance = random.Random(2)
        for _ in range(5):
            there = shuffled(chance, range(40))
            clicks = some_clicks(chance, 40, 60)
            self.assertEqual(makers(there, clicks), self.naive_makers(there, clicks))

    def test_each_cheapest_list_makes_at_most_two_borders_by_a_click(self):
        for there, number in itertools.product([[2, 0, 1, 3]], range(3)):
            for clicks in itertools.product(row_clicks(4), repeat=number):
                indexes = [index for _, index in makers(there, list(clicks))]
                self.assertTrue(all(indexes.count(index) <= 2 for index in indexes))

    def test_errors(self):
        for call in (makers, idle_clicks):
            self.assertEqual(error_of(call, [5, 2, 2], [()]), (InvalidRows, [5, 2, 2]))
            for click in WRONG_CLICKS:
                self.assertEqual(error_of(call, THERE, [("click", 9), click]), (InvalidDeed, click))
            self.assertEqual(error_of(call, THERE, [("click", 4), ("range", -1)]), (InvalidPosition, -1))
