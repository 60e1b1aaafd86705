"""listwindow/toldback.py, with [7], [12], [17] and [19]."""

import itertools
import unittest

from listwindow.errors import InvalidNumber, InvalidSorting
from listwindow.tables import Table
from listwindow.toldback import best_click, clicks_to_one, folded_for, sortings_for, standings_for, told_apart
from listwindow.views import View
from tests.support import (all_sortings, click, click_all, click_lists, empty_table, equal_table, error_of, order_by,
                           random_table, some_tables, sublists)
from tests.window_model import chances, room_by, seen_by

TABLE = Table(2, [[1, 1], [1, 2], [2, 1]])
GREAT = 10 ** 30 - 1


def lines_by(table, sorting, folded=()):
    folds = [[] for _ in range(table.width)]
    if sorting:
        folds[sorting[0][0]] = list(folded)
    return View(table, sorting, [(None, None)] * table.width, folds).lines()


def seen_clipped(table, sorting, height, scroll):
    lines = lines_by(table, sorting)
    return seen_by(lines, height, min(scroll, room_by(lines, height)))


def tables():
    return some_tables(1, number=4) + some_tables(2, number=8) + [empty_table(1), equal_table(2, 6), TABLE]


def known_lists(chance, width):
    """Lists of different sortings: none, one alone, some, all."""
    sortings = all_sortings(width)
    return [[], [[]], [sortings[-1]], sortings] + [chance.sample(sortings, chance.randrange(2, min(6, len(sortings))))
                                                  for _ in range(6)]


class LinesTest(unittest.TestCase):
    def test_examples(self):
        lines = [("head", 1, 2), ("row", 0), ("row", 1), ("head", 2, 1), ("row", 2)]
        self.assertEqual(sortings_for(TABLE, lines), [[(0, 1)], [(0, 1), (1, 1)]])
        self.assertEqual(folded_for(TABLE, [(0, 1)], [("head", 1, 2), ("head", 2, 1), ("row", 2)]), [1])
        self.assertEqual(standings_for(TABLE, 2, [("head", 1, 2), ("head", 2, 1)]), [
            ([(0, 1)], 2), ([(1, 1)], 2), ([(0, 1), (1, -1)], 2), ([(0, 1), (1, 1)], 2), ([(1, 1), (0, -1)], 2),
            ([(1, 1), (0, 1)], 2)])

    def test_no_lines_at_all(self):
        self.assertEqual(sortings_for(table=TABLE, lines=[]), [])
        self.assertEqual(sortings_for(empty_table(1), []), all_sortings(1))
        self.assertEqual(standings_for(table=empty_table(1), height=GREAT, seen=[]),
                         [(sorting, 0) for sorting in all_sortings(1)])
        self.assertEqual(standings_for(TABLE, 1, []), [])
        self.assertEqual(folded_for(table=empty_table(1), sorting=[(0, 1)], lines=[]), [])
        self.assertIsNone(folded_for(TABLE, [(0, 1)], []))

    def test_sortings_for(self):
        for table in tables():
            shown = [lines_by(table, sorting) for sorting in all_sortings(table.width)]
            for lines in shown + [some[1:] for some in shown] + [[("row", 9)]]:
                told = [sorting for sorting, some in zip(all_sortings(table.width), shown) if some == lines]
                self.assertEqual(sortings_for(table, lines), told)

    def test_standings_for(self):
        for table in tables():
            for height in (1, 2, 3, 5, 20):
                shown = []
                for sorting in all_sortings(table.width):
                    lines = lines_by(table, sorting)
                    shown += [((sorting, scroll), seen_by(lines, height, scroll))
                              for scroll in range(room_by(lines, height) + 1)]
                for seen in [some for _, some in shown[::3]] + [[("head", 1, 1)], [("row", 0), ("row", 0)]]:
                    told = [standing for standing, some in shown if some == seen]
                    self.assertEqual(standings_for(table, height, seen), told)

    def test_folded_for(self):
        for table in tables():
            for sorting in all_sortings(table.width)[1:]:
                values = sorted(set(table.column(sorting[0][0])))
                for folded in sublists(values):
                    lines = lines_by(table, sorting, folded)
                    self.assertEqual(folded_for(table, sorting, lines), folded)
                    for at in range(len(lines)):
                        # A line left out, told twice or told as another one.
                        for other in (lines[:at] + lines[at + 1:], lines[:at + 1] + lines[at:],
                                      lines[:at] + [("head", 9, 1)] + lines[at + 1:],
                                      lines[:at] + [("row", 9)] + lines[at + 1:]):
                            found = [some for some in sublists(values) if lines_by(table, sorting, some) == other]
                            self.assertEqual(folded_for(table, sorting, other), found[0] if found else None)

    def test_errors(self):
        self.assertEqual(error_of(standings_for, TABLE, 0, []), (InvalidNumber, 0))
        for sorting in ([], [(2, 1)], [(0, 1), (0, -1)], [(0, 0)], [(-1, 1)]):
            self.assertEqual(error_of(folded_for, TABLE, sorting, []), (InvalidSorting, sorting))


class KnownTest(unittest.TestCase):
    def test_examples(self):
        self.assertEqual(best_click(TABLE, 9, 0, [[(0, 1)], [(0, -1)]]), 0)
        self.assertEqual(told_apart(TABLE, [[(0, 1)], [(0, 1), (1, -1)]]), [])
        self.assertEqual(clicks_to_one(TABLE, [[(0, 1)], [(0, -1)]]), [1, 0])

    def test_one_alone_and_none(self):
        self.assertIsNone(best_click(table=TABLE, height=9, scroll=0, known=[]))
        self.assertEqual(best_click(TABLE, 9, GREAT, [[(1, 1)]]), 0)
        for known in ([], [[]], [[(1, -1), (0, 1)]]):
            self.assertEqual(told_apart(table=TABLE, known=known), [])
            self.assertEqual(clicks_to_one(table=TABLE, known=known), [])

    def test_there_is_none(self):
        table = Table(1, [[1], [2]])
        self.assertIsNone(clicks_to_one(table, [[(0, 1)], [(0, -1)]]))
        self.assertIsNone(told_apart(equal_table(2, 3), [[], [(0, 1)]]))
        self.assertIsNone(told_apart(TABLE, [[(0, 1)], [(0, 1), (1, 1)]]))
        self.assertEqual(told_apart(table, [[], [(0, 1)]]), [0])

    def test_best_click(self):
        for chance in chances(6):
            for table in [random_table(chance, width, rows) for width in (1, 2) for rows in (0, 1, 3, 6)]:
                for known in known_lists(chance, table.width):
                    for height, scroll in ((1, 0), (2, 1), (3, 4), (9, 0), (2, GREAT)):
                        greatest = []
                        for column in range(table.width):
                            seen = [str(seen_clipped(table, click(sorting, column), height, scroll))
                                    for sorting in known]
                            greatest.append(max([seen.count(some) for some in seen], default=0))
                        told = greatest.index(min(greatest)) if known else None
                        self.assertEqual(best_click(table, height, scroll, known), told)

    def first_by(self, table, known, fits, most):
        for clicks in click_lists(table.width, most):
            if fits([order_by(table, click_all(sorting, clicks)) for sorting in known]):
                return clicks
        return None

    def test_clicks_to_one(self):
        for chance in chances(8):
            for table in [random_table(chance, width, rows) for width in (1, 2) for rows in (1, 3, 5)]:
                for known in known_lists(chance, table.width):
                    # From five clicks on, two columns give no further form.
                    told = self.first_by(table, known, lambda orders: all(some == orders[0] for some in orders), 6)
                    self.assertEqual(clicks_to_one(table, known), told)

    def test_told_apart(self):
        for chance in chances(8):
            for table in [random_table(chance, width, rows) for width in (1, 2) for rows in (1, 3, 5)]:
                for known in known_lists(chance, table.width):
                    told = self.first_by(table, known, lambda orders: len({str(some) for some in orders}) == len(orders), 4)
                    self.assertEqual(told_apart(table, known), told)

    def test_all_pairs(self):
        for one, other in itertools.combinations(all_sortings(2), 2):
            told = self.first_by(TABLE, [one, other], lambda orders: orders[0] != orders[1], 4)
            self.assertEqual(told_apart(TABLE, [one, other]), told)

    def test_errors(self):
        for wrong in ([(2, 1)], [(0, 1), (0, -1)], [(0, 0)], [(-1, 1)]):
            known = [[(0, 1)], wrong, [(9, 9)]]
            self.assertEqual(error_of(best_click, empty_table(), 1, 0, [wrong]), (InvalidSorting, wrong))
            self.assertEqual(error_of(clicks_to_one, empty_table(), [wrong]), (InvalidSorting, wrong))
            self.assertEqual(error_of(told_apart, empty_table(), [wrong]), (InvalidSorting, wrong))
            self.assertEqual(error_of(best_click, TABLE, 0, -1, known), (InvalidNumber, 0))
            self.assertEqual(error_of(best_click, TABLE, 1, -1, known), (InvalidNumber, -1))
            self.assertEqual(error_of(best_click, TABLE, 1, 0, known), (InvalidSorting, wrong))
            self.assertEqual(error_of(clicks_to_one, TABLE, known), (InvalidSorting, wrong))
            self.assertEqual(error_of(told_apart, TABLE, known), (InvalidSorting, wrong))
