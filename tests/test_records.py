"""listwindow/records.py, with [7], [12], [17] and [19]."""

import random
import unittest

from listwindow.errors import InvalidColumn, InvalidNumber
from listwindow.records import first_lie, sortings_told
from listwindow.tables import Table
from tests.support import all_sortings, click_all, empty_table, error_of, random_table
from tests.test_toldback import GREAT, TABLE, seen_clipped
from tests.window_model import chances

SEEN = [([], 0, [("head", 1, 2), ("row", 0), ("row", 1)])]


def true_record(chance, table, sorting, height, length):
    """What is seen, entry by entry, if the view has a sorting at first."""
    record, keys = [], sorting
    for _ in range(length):
        clicks = [chance.randrange(table.width) for _ in range(chance.choice([0, 0, 1, 2]))]
        scroll = chance.choice([0, 0, 1, 2, 9, GREAT])
        keys = click_all(keys, clicks)
        record.append((clicks, scroll, seen_clipped(table, keys, height, scroll)))
    return record


def goes(table, height, sorting, record):
    for clicks, scroll, lines in record:
        sorting = click_all(sorting, clicks)
        if seen_clipped(table, sorting, height, scroll) != lines:
            return False
    return True


class RecordsTest(unittest.TestCase):
    def test_examples(self):
        more = SEEN + [([1], 2, [("head", 2, 1), ("row", 1)])]
        self.assertEqual(sortings_told(TABLE, 3, SEEN), [[(0, 1)], [(0, 1), (1, 1)]])
        self.assertEqual((sortings_told(TABLE, 3, more), first_lie(TABLE, 3, more)), ([], 1))
        self.assertIsNone(first_lie(table=TABLE, height=3, record=SEEN))

    def test_without_entries(self):
        for table in (TABLE, empty_table(2), Table(2, [[1, 1]])):
            self.assertEqual(sortings_told(table=table, height=1, record=[]), all_sortings(2))
            self.assertIsNone(first_lie(table, 1, []))

    def test_scrolls_beyond_the_room(self):
        record = [([], GREAT, [("head", 1, 2), ("head", 2, 1), ("row", 2)])]
        self.assertEqual(sortings_told(TABLE, 3, record), sortings_told(TABLE, 3, [([], 2, record[0][2])]))
        self.assertEqual(sortings_told(TABLE, 3, record)[0], [(0, 1)])

    def test_an_entry_that_nothing_goes_with(self):
        for at in range(3):
            record = [([], 0, [])] * 3
            wrong = record[:at] + [([0], 0, [("row", 0)])] + record[at:]
            self.assertEqual((first_lie(empty_table(1), 2, wrong), sortings_told(empty_table(1), 2, wrong)), (at, []))

    def test_all_sortings(self):
        for chance in chances(25):
            table = random_table(chance, chance.randrange(1, 3), chance.randrange(7), 2)
            height = chance.randrange(1, 6)
            for sorting in all_sortings(table.width)[::2]:
                record = true_record(chance, table, sorting, height, 3)
                if chance.random() < 0.5:
                    # A lie at one of the entries.
                    other = chance.choice(all_sortings(table.width))
                    at = chance.randrange(3)
                    record[at] = record[at][:2] + (seen_clipped(table, other, height, record[at][1]),)
                told = [keys for keys in all_sortings(table.width) if goes(table, height, keys, record)]
                self.assertEqual(sortings_told(table, height, record), told)
                lies = [at for at in range(3) if not any(goes(table, height, keys, record[:at + 1])
                                                         for keys in all_sortings(table.width))]
                self.assertEqual(first_lie(table, height, record), lies[0] if lies else None)

    def test_at_the_limits(self):
        chance = random.Random(3)
        table = random_table(chance, 2, 6)
        record = true_record(chance, table, [(1, -1)], 3, 60)
        record = [(clicks * 30, scroll, lines) for clicks, scroll, lines in record[:1]] + record[1:]
        record[0] = ([0, 1] * 30, 0, seen_clipped(table, click_all([(1, -1)], [0, 1] * 30), 3, 0))
        self.assertEqual(first_lie(table, 3, record[:1]), None)
        self.assertIn([(1, -1)], sortings_told(table, 3, record[:1]))
        record = true_record(chance, table, [(1, -1)], GREAT, 60)
        self.assertIn([(1, -1)], sortings_told(table, GREAT, record))
        self.assertIsNone(first_lie(table, GREAT, record))

    def test_errors(self):
        for call in (sortings_told, first_lie):
            for record in (SEEN + [([0, 2], -1, []), ([-1], 0, [])], [([], -5, []), ([1, 1, 2, 3], 0, [])]):
                self.assertEqual(error_of(call, TABLE, 0, record), (InvalidNumber, 0))
                self.assertEqual(error_of(call, TABLE, 1, record), (InvalidColumn, 2))
            self.assertEqual(error_of(call, TABLE, 1, [([-1], -1, [])]), (InvalidColumn, -1))
            self.assertEqual(error_of(call, TABLE, 1, SEEN + [([1], -2, []), ([], -1, [])]), (InvalidNumber, -2))
            # The first entry is a lie, but the last one is wrong.
            self.assertEqual(error_of(call, TABLE, 1, [([], 0, []), ([], -1, [])]), (InvalidNumber, -1))
