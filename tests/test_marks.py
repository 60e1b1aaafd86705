"""[14], [16] and listwindow/marks.py."""

import itertools
import random
import unittest

from listwindow.errors import InvalidDeed, InvalidMarks, InvalidPosition, InvalidRows
from listwindow.marks import anchor_after, blocks, borders, cost, marked, positions
from tests.support import (all_lists, error_of, least_cost, mark_all, row_clicks, shuffled, some_clicks, sublists)

THERE = [1, 4, 3, 0, 2]
# Anchors that are there, are not, are below 0, have sixty digits, or are None.
ANCHORS = [None, 1, 2, 9, -1, 10 ** 59]
WRONG_CLICKS = [("sort", 0), ("only", 0, 1, 2), ("fold", 1), ("one", 1), ("all",), ("turn", 5), ("visit", "few"),
                ("click",), ("range",), ("click", 1, 1), ("range", 0, 0), ()]


def naive_borders(there, marks):
    def is_marked(position):
        return 0 <= position < len(there) and there[position] in marks
    return [b for b in range(len(there) + 1) if is_marked(b - 1) != is_marked(b)]


class MarkedTest(unittest.TestCase):
    def test_examples(self):
        self.assertEqual(marked(THERE, [], None, [("click", 0), ("range", 2)]), ([1, 3, 4], 1))
        self.assertEqual(marked(there=THERE, marks=[3], anchor=0, clicks=[("range", 4)]), ([3], 0))
        self.assertEqual(marked(THERE, [], 9, [("range", 1)]), ([4], 4))
        self.assertEqual(marked(THERE, [2, 3], None, [("click", 4), ("range", 0)]), ([], 2))
        self.assertEqual(marked([], [2, 30], 7, []), ([2, 30], 7))
        self.assertEqual(marked([5], [5], None, [("range", 0)]), ([], 5))

    def test_rows_that_are_not_there_stay_as_they_are(self):
        self.assertEqual(marked([4, 2], [1, 2, 3, 9], 4, [("range", 1)]), ([1, 3, 9], 4))
        self.assertEqual(marked([4, 2], [1, 3], 2, [("click", 0), ("click", 0)]), ([1, 3], 4))

    def test_against_the_words(self):
        for there in ([2, 0, 1], [1, 0], [7]):
            for clicks in all_lists(row_clicks(len(there)), 3):
                for marks in ([], [0, 1, 2], [0, 5], [1, 7]):
                    for anchor in ANCHORS:
                        self.assertEqual(marked(there, marks, anchor, clicks), mark_all(there, marks, anchor, clicks))

    def test_at_the_limits(self):
        chance = random.Random(1)
        for _ in range(20):
            there = shuffled(chance, range(50))[:40]
            clicks = some_clicks(chance, 40, 60)
            marks = sorted(chance.sample(range(50), 30))
            anchor = chance.choice(ANCHORS + there)
            self.assertEqual(marked(there, marks, anchor, clicks), mark_all(there, marks, anchor, clicks))
            self.assertEqual(anchor_after(there, anchor, clicks), mark_all(there, marks, anchor, clicks)[1])

    def test_errors(self):
        self.assertEqual(error_of(marked, [3, 1, 3], [2, 1], None, [()]), (InvalidRows, [3, 1, 3]))
        for marks in ([2, 1], [1, 1], [0, 5, 5, 9], [7, 8, 2]):
            self.assertEqual(error_of(marked, THERE, marks, None, [("sort", 1)]), (InvalidMarks, marks))
        for click in WRONG_CLICKS:
            clicks = [("click", 9), ("range", 0), click, ("turn", 9)]
            self.assertEqual(error_of(marked, THERE, [], None, clicks), (InvalidDeed, click))
            self.assertEqual(error_of(anchor_after, THERE, None, clicks), (InvalidDeed, click))
        for position in (5, -1, -5, 10 ** 59):
            clicks = [("click", 4), ("range", position), ("click", 77)]
            self.assertEqual(error_of(marked, THERE, [], None, clicks), (InvalidPosition, position))
            self.assertEqual(error_of(anchor_after, THERE, 3, clicks), (InvalidPosition, position))
        self.assertEqual(error_of(marked, [], [], None, [("click", 0)]), (InvalidPosition, 0))
        self.assertEqual(error_of(anchor_after, [1, 1], None, [()]), (InvalidRows, [1, 1]))
        self.assertEqual(marked(THERE, [9], None, [("click", 4)]), ([2, 9], 2))


class PositionsAndAnchorTest(unittest.TestCase):
    def test_positions(self):
        self.assertEqual(positions(THERE, [0, 1, 3]), [0, 2, 3])
        self.assertEqual(positions(there=THERE, rows=[2, 9, 2, 1, -1]), [0, 4])
        self.assertEqual((positions([], [1]), positions(THERE, [])), ([], []))
        self.assertEqual(positions(list(range(39, -1, -1)), list(range(40))), list(range(40)))
        self.assertEqual(error_of(positions, [5, 2, 2], []), (InvalidRows, [5, 2, 2]))

    def test_anchor_after(self):
        self.assertEqual(anchor_after(THERE, None, [("click", 0), ("range", 2)]), 1)
        self.assertEqual(anchor_after(there=THERE, anchor=9, clicks=[("range", 2), ("range", 0)]), 3)
        self.assertEqual(anchor_after(THERE, 0, [("range", 2)]), 0)
        self.assertIsNone(anchor_after(THERE, None, []))
        self.assertEqual(anchor_after([], -5, []), -5)
        for clicks in all_lists(row_clicks(3), 3):
            for anchor in ANCHORS:
                self.assertEqual(anchor_after([2, 0, 1], anchor, clicks), mark_all([2, 0, 1], [], anchor, clicks)[1])


class CostTest(unittest.TestCase):
    def test_examples(self):
        self.assertEqual(borders(THERE, [1, 3, 4]), [0, 3])
        self.assertEqual(blocks(THERE, [0, 1, 3]), [(0, 2), (4, 4)])
        self.assertEqual([cost(THERE, [1, 3, 4]), cost(THERE, [0, 1, 3]), cost([0, 1, 2, 3, 4], [0, 1, 3])], [2, 3, 3])
        self.assertEqual((borders(there=[], marks=[]), blocks(there=[], marks=[]), cost(there=[], marks=[])), ([], [], 0))
        self.assertEqual((borders([3], [3]), blocks([3], [3]), cost([3], [3])), ([0, 1], [(0, 1)], 1))

    def test_marks_that_are_not_there_are_no_borders(self):
        self.assertEqual(borders([1, 4], [0, 2, 9]), [])
        self.assertEqual(borders([1, 4], [0, 4, 9]), [1, 2])
        self.assertEqual(blocks([1, 4, 5], [0, 4, 9]), [(1, 2)])

    def test_forty_rows(self):
        there = list(range(39, -1, -1))
        self.assertEqual((borders(there, there[::-1]), cost(there, there[::-1])), ([0, 40], 2))
        self.assertEqual((blocks(there, list(range(0, 40, 2))), cost(there, list(range(0, 40, 2)))), ([(1, 40)], 20))
        self.assertEqual((blocks(there, list(range(1, 40, 2))), cost(there, list(range(1, 40, 2)))), ([(0, 39)], 20))

    def test_against_the_definition(self):
        for there in ([], [4], [2, 0, 1, 3], [5, 1, 3, 0, 2, 4]):
            for marks in sublists(range(6)):
                self.assertEqual(borders(there, marks), naive_borders(there, marks))
                told = naive_borders(there, marks)
                self.assertEqual([b for first, last in blocks(there, marks) for b in range(first, last + 1)], told)
                for (_, last), (first, _) in itertools.pairwise(blocks(there, marks)):
                    self.assertGreater(first, last + 1)

    def test_so_many_clicks_lead_to_marks_and_no_fewer(self):
        for there in ([], [4], [1, 0], [2, 0, 1], [2, 0, 1, 3], [4, 2, 0, 1, 3]):
            for marks in sublists(there):
                self.assertEqual(cost(there, marks), least_cost(there, marks))

    def test_whatever_the_anchor(self):
        there = [2, 0, 1]
        for anchor in ANCHORS:
            reached = {}
            for clicks in all_lists(row_clicks(3), 3):
                made, _ = mark_all(there, [], anchor, clicks)
                reached.setdefault(tuple(made), len(clicks))
            for marks in sublists(there):
                self.assertEqual(cost(there, marks), reached[tuple(marks)])

    def test_errors(self):
        for call in (borders, blocks, cost):
            self.assertEqual(error_of(call, [5, 2, 2], [2, 1]), (InvalidRows, [5, 2, 2]))
            for marks in ([2, 1], [1, 1], [9, 9]):
                self.assertEqual(error_of(call, THERE, marks), (InvalidMarks, marks))
        for marks in ([5], [0, 9], [-1, 0]):
            self.assertEqual(error_of(cost, THERE, marks), (InvalidMarks, marks))
        self.assertEqual(error_of(cost, [], [0]), (InvalidMarks, [0]))
        self.assertEqual(cost(THERE, [0]), 1)
