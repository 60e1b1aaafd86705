"""[14] to [16] and listwindow/markways.py."""

import itertools
import random
import unittest

from listwindow.errors import InvalidMarks, InvalidRows, InvalidSorting
from listwindow.marks import cost, marked
from listwindow.markways import (cheapest_clicks, cheapest_sorting, cost_orders, fewest, fewest_anyhow, meeting_clicks,
                                 one_stop)
from listwindow.tables import Table
from tests.support import (all_sortings, click, click_all, click_lists, empty_table, equal_table, error_of,
                           example_table, first_list, great_table, least_cost, mark_all, order_by, random_table,
                           row_clicks, shuffled, some_tables, sublists, ways_from)
from tests.test_marks import ANCHORS, THERE

SIX = Table(1, [[1], [2], [1], [2], [1], [2]])


def first_fewest(there, marks, anchor, goal):
    def behind(state, deed):
        made, last = mark_all(there, state[0], state[1], [deed])
        return tuple(made), last
    return first_list((tuple(marks), anchor), row_clicks(len(there)), behind, lambda state: list(state[0]) == goal)


def first_meeting(there, marks, other):
    def behind(state, deed):
        one, last = mark_all(there, state[0], state[2], [deed])
        another, _ = mark_all(there, state[1], state[2], [deed])
        return tuple(one), tuple(another), last
    return first_list((tuple(marks), tuple(other), None), row_clicks(len(there)), behind,
                      lambda state: state[0] == state[1])


def first_anyhow(table, sorting, marks):
    deeds = row_clicks(len(table)) + [("sort", column) for column in range(table.width)]

    def behind(state, deed):
        keys, made, anchor = state
        if deed[0] == "sort":
            return tuple(click(list(keys), deed[1])), made, anchor
        told, last = mark_all(order_by(table, list(keys)), made, anchor, [deed])
        return keys, tuple(told), last
    return first_list((tuple(sorting), (), None), deeds, behind, lambda state: list(state[1]) == marks)


class CheapestClicksTest(unittest.TestCase):
    def test_examples(self):
        self.assertEqual(cheapest_clicks(THERE, [1, 3, 4]), [("click", 0), ("range", 2)])
        self.assertEqual(cheapest_clicks(there=THERE, marks=[0, 1, 3]), [("click", 0), ("range", 3), ("click", 1)])
        self.assertEqual((cheapest_clicks([], []), cheapest_clicks([3], [3])), ([], [("click", 0)]))

    def test_they_lead_there_and_are_as_many_as_the_cost(self):
        for there in ([], [4], [1, 0], [2, 0, 1, 3], [5, 2, 0, 1, 3, 4], [5, 2, 6, 0, 1, 3, 7, 4]):
            for marks in sublists(there):
                clicks = cheapest_clicks(there, marks)
                self.assertEqual(mark_all(there, [], None, clicks)[0], marks)
                self.assertEqual(len(clicks), cost(there, marks))

    def test_forty_rows(self):
        chance = random.Random(1)
        there = shuffled(chance, range(40))
        for marks in ([], list(range(40)), sorted(there[::2]), sorted(there[1::3]), sorted(there[:9] + there[30:])):
            clicks = cheapest_clicks(there, marks)
            self.assertEqual(mark_all(there, [], None, clicks)[0], marks)
            self.assertEqual(len(clicks), cost(there, marks))

    def test_errors(self):
        self.assertEqual(error_of(cheapest_clicks, [5, 2, 2], [2, 1]), (InvalidRows, [5, 2, 2]))
        for marks in ([2, 1], [1, 1], [0, 9]):
            self.assertEqual(error_of(cheapest_clicks, THERE, marks), (InvalidMarks, marks))


class FewestTest(unittest.TestCase):
    def test_examples(self):
        self.assertEqual(fewest([0, 1, 2], [0], None, [1, 2]), [("click", 0), ("click", 1), ("click", 2)])
        self.assertEqual(fewest(there=[2, 0], marks=[5], anchor=0, goal=[0, 2, 5]), [("click", 0), ("click", 1)])
        self.assertEqual(fewest([2, 0, 1], [1, 5], 1, [0, 1, 2, 5]), [("range", 0)])
        self.assertEqual(fewest(THERE, [1], 9, [1]), [])
        self.assertEqual(fewest([], [2, 7], None, [2, 7]), [])
        self.assertIsNone(fewest([], [2, 7], None, [2]))
        self.assertIsNone(fewest(THERE, [0, 7], None, [0]))

    def test_against_all_lists(self):
        for there in ([3], [1, 0], [2, 0, 1]):
            for marks, goal in itertools.product(sublists(there), repeat=2):
                for anchor in ANCHORS:
                    self.assertEqual(fewest(there, marks, anchor, goal), first_fewest(there, marks, anchor, goal))
                    self.assertEqual(fewest(there, marks + [7], anchor, goal + [7]), fewest(there, marks, anchor, goal))

    def test_four_rows(self):
        chance = random.Random(2)
        for _ in range(25):
            there = shuffled(chance, range(4))
            marks, goal = [sorted(chance.sample(range(4), chance.randrange(5))) for _ in range(2)]
            anchor = chance.choice(ANCHORS + there)
            self.assertEqual(fewest(there, marks, anchor, goal), first_fewest(there, marks, anchor, goal))

    def test_six_rows(self):
        there = [5, 3, 1, 0, 2, 4]
        for marks in sublists(there)[::7]:
            self.assertEqual(len(fewest(there, [], None, marks)), cost(there, marks))
            self.assertEqual(marked(there, [0, 1], 3, fewest(there, [0, 1], 3, marks))[0], marks)

    def test_errors(self):
        self.assertEqual(error_of(fewest, [0, 0], [1, 1], None, [2, 2]), (InvalidRows, [0, 0]))
        self.assertEqual(error_of(fewest, [0], [1, 1], None, [2, 2]), (InvalidMarks, [1, 1]))
        self.assertEqual(error_of(fewest, [0], [1, 2], None, [2, 1]), (InvalidMarks, [2, 1]))
        self.assertEqual(error_of(fewest, [0], [], None, [2, 2]), (InvalidMarks, [2, 2]))


class MeetingClicksTest(unittest.TestCase):
    def test_examples(self):
        five = [0, 1, 2, 3, 4]
        self.assertEqual(meeting_clicks(five, [0], [4]), [("click", 1), ("range", 0), ("range", 4)])
        self.assertEqual(meeting_clicks(there=five, marks=[3, 4], other=[]), [("click", 0), ("range", 4)])
        self.assertEqual(meeting_clicks(five, [0, 1], []), [("click", 2), ("range", 0)])
        self.assertIsNone(meeting_clicks([0, 1], [0], [1]))
        self.assertIsNone(meeting_clicks([3], [3], []))
        self.assertEqual(meeting_clicks([], [3, 5], [3, 5]), [])
        self.assertIsNone(meeting_clicks([], [3, 5], [3]))
        self.assertIsNone(meeting_clicks(five, [0, 9], [0]))
        self.assertEqual(meeting_clicks(five, [0, 9], [0, 9]), [])

    def test_against_all_lists(self):
        for there in ([3], [1, 0], [2, 0, 1], [2, 0, 3, 1]):
            for marks, other in itertools.product(sublists(there), repeat=2):
                expected = first_meeting(there, marks, other)
                self.assertEqual(meeting_clicks(there, marks, other), expected)
                self.assertEqual(meeting_clicks(there, marks + [8], other + [8]), expected)

    def test_five_rows(self):
        chance = random.Random(3)
        for _ in range(25):
            there = shuffled(chance, range(5))
            marks, other = [sorted(chance.sample(range(5), chance.randrange(6))) for _ in range(2)]
            self.assertEqual(meeting_clicks(there, marks, other), first_meeting(there, marks, other))

    def test_forty_rows(self):
        there = list(range(39, -1, -1))
        clicks = meeting_clicks(there, list(range(0, 40, 2)) + [], [0, 39])
        self.assertEqual(marked(there, list(range(0, 40, 2)), None, clicks), marked(there, [0, 39], None, clicks))
        self.assertEqual(meeting_clicks(there, list(range(40)), [7]), [("click", 32), ("range", 0), ("range", 39)])
        self.assertIsNone(meeting_clicks(there, list(range(40)), []))

    def test_errors(self):
        self.assertEqual(error_of(meeting_clicks, [0, 0], [1, 1], [2, 2]), (InvalidRows, [0, 0]))
        self.assertEqual(error_of(meeting_clicks, [0], [1, 1], [2, 2]), (InvalidMarks, [1, 1]))
        self.assertEqual(error_of(meeting_clicks, [0], [1, 7], [2, 2]), (InvalidMarks, [2, 2]))
        self.assertEqual(error_of(meeting_clicks, [0], [1, 7], [7, 1]), (InvalidMarks, [7, 1]))


class CostOrdersTest(unittest.TestCase):
    def test_examples(self):
        told = cost_orders(SIX, [0, 2, 4])
        self.assertEqual(told, [(2, [(0, -1)]), (2, [(0, 1)]), (3, [])])
        self.assertEqual(cost_orders(table=empty_table(1), marks=[]), [(0, []), (0, [(0, -1)]), (0, [(0, 1)])])

    def test_against_the_definition(self):
        for table in some_tables(2, number=8, most=4) + some_tables(3, number=3, most=4):
            for marks in sublists(range(len(table)))[::3]:
                told = [(cost(order_by(table, keys), marks), keys) for keys in all_sortings(table.width)]
                self.assertEqual(cost_orders(table, marks), sorted(told, key=lambda pair: (pair[0], len(pair[1]), pair[1])))

    def test_at_the_limits(self):
        table = great_table(3)
        told = cost_orders(table, list(range(0, 40, 2)))
        self.assertEqual((len(told), [number for number, _ in told]), (79, sorted(number for number, _ in told)))

    def test_errors(self):
        for marks in ([2, 1], [1, 1], [5], [-1, 0]):
            self.assertEqual(error_of(cost_orders, example_table(), marks), (InvalidMarks, marks))


class CheapestSortingTest(unittest.TestCase):
    def test_examples(self):
        self.assertEqual(cheapest_sorting(SIX, [], [0, 2, 4]), (3, [], []))
        self.assertEqual(cheapest_sorting(table=SIX, sorting=[(0, 1)], marks=[0, 2, 4]), (2, [], [(0, 1)]))
        eight = Table(1, [[1], [2]] * 4)
        self.assertEqual(cheapest_sorting(eight, [], [0, 2, 4, 6]), (3, [0], [(0, 1)]))
        self.assertEqual(cheapest_sorting(empty_table(), [(1, 1)], []), (0, [], [(1, 1)]))
        self.assertEqual(cheapest_sorting(equal_table(2), [], [1, 3]), (2, [], []))

    def test_against_all_clicks(self):
        chance = random.Random(4)
        for table in some_tables(2, number=8, most=5) + [random_table(chance, 2, 7, 2) for _ in range(4)]:
            for start in chance.sample(all_sortings(2), 4):
                marks = sorted(chance.sample(range(len(table)), chance.randrange(len(table) + 1)))
                every = []
                for clicks in click_lists(2, 4):
                    keys = click_all(start, clicks)
                    every.append((len(clicks) + cost(order_by(table, keys), marks), len(clicks), clicks, keys))
                number, _, clicks, keys = min(every)
                self.assertEqual(cheapest_sorting(table, start, marks), (number, clicks, keys))

    def test_of_equally_cheap_ones_the_first_clicks(self):
        rows = [[0, 2], [2, 1], [2, 0], [2, 0], [0, 2], [1, 2], [1, 2], [2, 0], [1, 0], [2, 0]]
        self.assertEqual(cheapest_sorting(Table(2, rows), [(1, 1)], [1, 2, 3, 5, 6, 7, 8, 9]), (3, [0], [(0, 1), (1, 1)]))
        rows = [[0, 1], [2, 1], [2, 1], [1, 1], [2, 2], [1, 2], [1, 0], [1, 1], [2, 0], [1, 0]]
        self.assertEqual(cheapest_sorting(Table(2, rows), [(0, -1)], [0, 1, 2, 3, 5, 7, 8]),
                         (4, [0, 1], [(1, 1), (0, 1)]))

    def test_at_the_limits(self):
        table = Table(3, [[row % 2, row % 3, 0] for row in range(40)])
        number, clicks, keys = cheapest_sorting(table, [(2, 1)], list(range(0, 40, 6)))
        self.assertEqual(keys, click_all([(2, 1)], clicks))
        self.assertEqual(number, len(clicks) + cost(order_by(table, keys), list(range(0, 40, 6))))
        self.assertLessEqual(number, 4)

    def test_errors(self):
        table = example_table()
        for call in (cheapest_sorting, fewest_anyhow):
            self.assertEqual(error_of(call, table, [(2, 1)], [1, 1]), (InvalidSorting, [(2, 1)]))
            for marks in ([2, 1], [1, 1], [5], [-1, 0]):
                self.assertEqual(error_of(call, table, [(1, 1)], marks), (InvalidMarks, marks))
        self.assertEqual(cheapest_sorting(table, [], [0]), (1, [], []))


class FewestAnyhowTest(unittest.TestCase):
    def test_examples(self):
        self.assertEqual(fewest_anyhow(Table(1, [[1], [2], [1], [2]]), [], [0, 2]), [("click", 0), ("click", 2)])
        self.assertEqual(fewest_anyhow(table=empty_table(), sorting=[(0, 1)], marks=[]), [])
        self.assertEqual(fewest_anyhow(example_table(), [(0, 1)], [1, 3, 4]), [("click", 0), ("range", 2)])
        self.assertEqual(fewest_anyhow(Table(1, [[1], [2], [1], [2], [1]]), [], [0, 2, 4]),
                         [("click", 0), ("click", 2), ("click", 4)])

    def test_against_all_lists(self):
        chance = random.Random(5)
        for table in some_tables(1, number=5, most=4) + some_tables(2, number=6, most=4):
            for marks in sublists(range(len(table)))[::2]:
                start = chance.choice(all_sortings(table.width))
                self.assertEqual(fewest_anyhow(table, start, marks), first_anyhow(table, start, marks))

    def test_it_pays_to_sort_between_a_click_and_a_range_click(self):
        # Only with more rows than there are at the limit a click on a head is less than what it saves.
        table = Table(1, [[1], [2], [1], [2], [1], [2], [1]])
        told = [("click", 0), ("sort", 0), ("range", 3)]
        self.assertEqual(fewest_anyhow(table, [], [0, 2, 4, 6]), told)
        self.assertEqual(first_anyhow(table, [], [0, 2, 4, 6]), told)

    def test_at_the_limits(self):
        table = Table(2, [[3, 1], [1, 2], [3, 2], [2, 1], [1, 1]])
        for marks in sublists(range(5))[::3]:
            told = fewest_anyhow(table, [], marks)
            self.assertEqual(told, first_anyhow(table, [], marks))
            self.assertLessEqual(len(told), cost([0, 1, 2, 3, 4], marks))


class OneStopTest(unittest.TestCase):
    def test_examples(self):
        self.assertEqual(one_stop(SIX, [(0, 1)], [(0, -1)], [0, 2, 4]), (3, [], [0]))
        self.assertIsNone(one_stop(table=SIX, sorting=[(0, 1)], goal=[], marks=[0]))
        self.assertEqual(one_stop(SIX, [], [], [0, 2, 4]), (3, [], []))
        self.assertEqual(one_stop(SIX, [], [(0, -1)], [0, 2, 4]), (4, [0], [0]))
        self.assertEqual(one_stop(SIX, [], [(0, -1)], []), (2, [], [0, 0]))

    def test_against_all_stops(self):
        chance = random.Random(6)
        for table in some_tables(2, number=6, most=6) + [random_table(chance, 2, 7, 2) for _ in range(4)]:
            for start, goal in [(chance.choice(all_sortings(2)), chance.choice(all_sortings(2))) for _ in range(6)]:
                marks = sorted(chance.sample(range(len(table)), chance.randrange(len(table) + 1)))
                every = []
                for stop, heads in ways_from(2, start).items():
                    for back in ways_from(2, list(stop)).get(tuple(goal), []):
                        number = len(heads[0]) + cost(order_by(table, list(stop)), marks) + len(back)
                        every.append((number, len(heads[0]), heads[0], back))
                told = one_stop(table, start, goal, marks)
                if not every:
                    self.assertIsNone(told)
                else:
                    number, _, heads, back = min(every)
                    self.assertEqual(told, (number, heads, back))

    def test_of_equally_cheap_stops_the_one_with_the_first_clicks(self):
        rows = [[0, 1], [0, 2], [1, 2], [0, 1], [1, 0], [0, 0], [2, 2], [1, 1], [1, 1], [2, 1]]
        self.assertEqual(one_stop(Table(2, rows), [(1, 1), (0, -1)], [(0, 1), (1, -1)], [1, 2, 3, 4, 7, 8]),
                         (6, [0], [1, 1, 0]))

    def test_at_the_limits(self):
        table = Table(3, [[row % 2, row % 3, 0] for row in range(40)])
        marks = list(range(0, 40, 2))
        number, heads, back = one_stop(table, [(2, 1)], [(2, 1), (1, -1)], marks)
        stop = click_all([(2, 1)], heads)
        self.assertEqual(click_all(stop, back), [(2, 1), (1, -1)])
        self.assertEqual(number, len(heads) + cost(order_by(table, stop), marks) + len(back))

    def test_errors(self):
        table = example_table()
        self.assertEqual(error_of(one_stop, table, [(2, 1)], [(3, 1)], [1, 1]), (InvalidSorting, [(2, 1)]))
        self.assertEqual(error_of(one_stop, table, [(1, 1)], [(3, 1)], [1, 1]), (InvalidSorting, [(3, 1)]))
        for marks in ([2, 1], [1, 1], [5], [-1, 0]):
            self.assertEqual(error_of(one_stop, table, [(1, 1)], [], marks), (InvalidMarks, marks))


class LeastCostTest(unittest.TestCase):
    def test_so_many_clicks_as_the_cost_and_no_fewer(self):
        for there in ([2, 0, 1], [2, 0, 3, 1]):
            for marks in sublists(there):
                self.assertEqual(len(cheapest_clicks(there, marks)), least_cost(there, marks))
