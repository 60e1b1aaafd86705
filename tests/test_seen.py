"""[19], with [12] and [13], and listwindow/seen.py."""

import itertools
import random
import unittest

from listwindow.errors import InvalidNumber, InvalidPosition, InvalidRow, InvalidRows
from listwindow.filters import open_filters
from listwindow.seen import (fewest_scrolls, fewest_to_see, least_height, never_together, scrolls_for, scrolls_showing,
                             seen_lines, stops, told_scrolls, told_starts)
from listwindow.tables import Table
from listwindow.views import View
from tests.support import (all_sortings, empty_table, equal_table, error_of, example_table, first_list, great_table,
                           some_tables, sublists)
from tests.window_model import room_by, seen_by, turn_by

GREAT = 10 ** 30 - 1


def view_of(table, sorting=(), folds=None, filters=None):
    width = table.width
    return View(table, list(sorting), filters or open_filters(width), folds or [[] for _ in range(width)])


def example_view():
    return view_of(Table(1, [[1], [1], [2]]), [(0, 1)])


def folded_view():
    return view_of(example_table(), [(0, 1)], [[1], []])


def some_views(number=12):
    """Views without and with keys, without lines, with some groups and with all of them folded, with hidden rows."""
    chance = random.Random(5)
    views = [view_of(empty_table()), view_of(empty_table(), [(0, 1)]), view_of(equal_table(2, 3)),
             view_of(equal_table(2, 3), [(1, -1)]), view_of(Table(1, [[4]])), view_of(Table(1, [[4]]), [(0, 1)]),
             view_of(Table(1, [[4]]), [(0, 1)], [[4]]), view_of(example_table(), [(0, 1)], [[1, 2, 3], []]),
             view_of(example_table(), [(0, 1)], None, [(9, None), (None, None)]), example_view(), folded_view()]
    for table in some_tables(2, number=number, most=5):
        cells = sorted(set(table.column(0)))
        views.append(view_of(table, chance.choice(all_sortings(2)), [chance.sample(cells, len(cells) // 2), [1]],
                             [(None, None), (None, chance.choice([None, 1]))]))
    return views


def heights(view):
    return range(1, len(view) + 3)


def seen_at_all(view, height):
    lines = view.lines()
    return [seen_by(lines, height, scroll) for scroll in range(room_by(lines, height) + 1)]


def row_lists(rows):
    """Lists of some rows, not only ascending."""
    return [list(told) for number in range(len(rows) + 1) for told in itertools.permutations(rows, number)][::3] + [rows]


class SeenLinesTest(unittest.TestCase):
    def test_examples(self):
        view = example_view()
        self.assertEqual(seen_lines(view, 3, 1), [("head", 1, 2), ("row", 1), ("head", 2, 1)])
        self.assertEqual(seen_lines(view, 3, 2), [("head", 1, 2), ("head", 2, 1), ("row", 2)])
        self.assertEqual(seen_lines(view=view, height=9, scroll=0), view.lines())

    def test_one_line_high(self):
        # A row is never seen below its head, and alone it gives way to its head.
        view = example_view()
        self.assertEqual([seen_lines(view, 1, scroll) for scroll in range(5)],
                         [[("head", 1, 2)]] * 3 + [[("head", 2, 1)]] * 2)
        plain = view_of(example_table())
        self.assertEqual([seen_lines(plain, 1, scroll) for scroll in range(5)], [[("row", row)] for row in range(5)])

    def test_no_lines(self):
        for view in (view_of(empty_table()), view_of(empty_table(), [(0, 1)])):
            self.assertEqual(seen_lines(view, 1, 0), [])
            self.assertEqual(seen_lines(view, GREAT, 0), [])
            self.assertEqual(error_of(seen_lines, view, 1, 1), (InvalidNumber, 1))

    def test_all_scrolls(self):
        for view in some_views():
            for height in heights(view):
                for scroll, seen in enumerate(seen_at_all(view, height)):
                    self.assertEqual(seen_lines(view, height, scroll), seen)

    def test_a_head_stays_above_the_rows_of_its_group(self):
        for view in some_views():
            groups = {row: value for value, rows in view.groups() for row in rows}
            for height in heights(view):
                for scroll in range(room_by(view.lines(), height) + 1):
                    head = None
                    for line in seen_lines(view, height, scroll):
                        if line[0] == "head":
                            head = line[1]
                        elif view.sorting:
                            self.assertEqual(groups[line[1]], head)

    def test_errors(self):
        view = example_view()
        for height in (0, -1, -GREAT):
            for scroll in (-1, -GREAT, 0, 1, 99):
                self.assertEqual(error_of(seen_lines, view, height, scroll), (InvalidNumber, height))
                self.assertEqual(error_of(seen_lines, scroll=scroll, height=height, view=view), (InvalidNumber, height))
        for scroll in (-1, 3, GREAT):
            self.assertEqual(error_of(seen_lines, view, 3, scroll), (InvalidNumber, scroll))
        self.assertEqual(error_of(seen_lines, view, 5, 1), (InvalidNumber, 1))
        self.assertIsNone(error_of(seen_lines, view, 3, 2))


class ScrollsTest(unittest.TestCase):
    def test_scrolls_for(self):
        self.assertEqual(scrolls_for(example_view(), 3, 2), (0, 2))
        self.assertEqual(scrolls_for(view=example_view(), height=GREAT, line=4), (0, 0))
        for view in some_views():
            for height in heights(view):
                room = room_by(view.lines(), height)
                for line in range(len(view)):
                    scrolls = [scroll for scroll in range(room + 1) if scroll <= line <= scroll + height - 1]
                    self.assertEqual(scrolls_for(view, height, line), (scrolls[0], scrolls[-1]))

    def test_scrolls_for_errors(self):
        for line in (-1, 5, GREAT):
            self.assertEqual(error_of(scrolls_for, example_view(), 3, line), (InvalidPosition, line))
            self.assertEqual(error_of(scrolls_for, example_view(), 0, line), (InvalidNumber, 0))
        self.assertEqual(error_of(scrolls_for, view_of(empty_table()), 3, 0), (InvalidPosition, 0))

    def test_scrolls_showing(self):
        self.assertEqual([scrolls_showing(example_view(), 3, 0), scrolls_showing(example_view(), 3, 2)], [[0], [2]])
        self.assertEqual(scrolls_showing(view=example_view(), height=1, row=0), [])
        self.assertEqual(scrolls_showing(view_of(example_table()), 1, 3), [3])
        for view in some_views():
            for height in heights(view):
                for row in view.open_rows():
                    told = [at for at, seen in enumerate(seen_at_all(view, height)) if ("row", row) in seen]
                    self.assertEqual(scrolls_showing(view, height, row), told)

    def test_scrolls_showing_errors(self):
        hidden = view_of(example_table(), [(0, 1)], None, [(2, None), (None, None)])
        for view, row in ((folded_view(), 1), (folded_view(), 4), (folded_view(), 5), (folded_view(), -1), (hidden, 1)):
            self.assertEqual(error_of(scrolls_showing, view, 3, row), (InvalidRow, row))
            self.assertEqual(error_of(scrolls_showing, view, 0, row), (InvalidNumber, 0))


class StopsTest(unittest.TestCase):
    def test_examples(self):
        self.assertEqual(stops(example_view(), 3), [0, 2])
        self.assertEqual(stops(view=example_view(), height=1), None)
        self.assertEqual(stops(view_of(example_table()), 1), [0, 1, 2, 3, 4])
        self.assertEqual(stops(view_of(empty_table()), 4), [])
        self.assertEqual(stops(view_of(empty_table(), [(0, 1)]), 1), [])
        self.assertEqual(stops(view_of(example_table(), [(0, 1)], [[1, 2, 3], []]), 1), [0, 1, 2])
        self.assertEqual(stops(example_view(), GREAT), [0])

    def test_all_lists_of_scrolls(self):
        for view in some_views():
            for height in heights(view):
                seen = seen_at_all(view, height)
                lines = view.lines()
                lists = [told for told in sublists(range(len(seen)))
                         if all(any(line in seen[at] for at in told) for line in lines)]
                self.assertEqual(stops(view, height), lists[0] if lists else None)

    def test_errors(self):
        for view in (example_view(), view_of(empty_table())):
            for height in (0, -1):
                self.assertEqual(error_of(stops, view, height), (InvalidNumber, height))
                self.assertEqual(error_of(fewest_scrolls, view, height, []), (InvalidNumber, height))
                self.assertEqual(error_of(never_together, view, height, []), (InvalidNumber, height))
                self.assertEqual(error_of(fewest_to_see, view, height, []), (InvalidNumber, height))
                self.assertEqual(error_of(told_starts, view, height, [], [[]]), (InvalidNumber, height))
                self.assertEqual(error_of(told_scrolls, view, height, []), (InvalidNumber, height))


class ToldTest(unittest.TestCase):
    def test_told_scrolls(self):
        self.assertEqual(told_scrolls(example_view(), 3, [("head", 1, 2), ("row", 1), ("head", 2, 1)]), [1])
        self.assertEqual(told_scrolls(view=example_view(), height=1, seen=[("head", 1, 2)]), [0, 1, 2])
        for view in some_views():
            for height in heights(view):
                seen = seen_at_all(view, height)
                for told in seen + [[], [("row", 0)], [("head", 1, 2), ("row", 0)], seen[0] + [("row", 9)]]:
                    scrolls = [at for at, there in enumerate(seen) if there == told]
                    self.assertEqual(told_scrolls(view, height, told), scrolls)
        self.assertEqual(error_of(told_scrolls, example_view(), -2, []), (InvalidNumber, -2))

    def test_told_starts(self):
        self.assertEqual(told_starts(example_view(), 1, [0], [[("head", 1, 2)], [("head", 1, 2)]]), [0, 1, 2])
        self.assertEqual(told_starts(view=example_view(), height=1, turns=[], seen=[[("head", 2, 1)]]), [3, 4])
        for view in some_views(4):
            for height in heights(view):
                seen = seen_at_all(view, height)
                rooms = (len(seen) - 1, 0)
                for turns in ([], [1], [-1, 2], [9, -1], [2, 0, -9]):
                    along = []
                    for scroll in range(len(seen)):
                        scrolls = [scroll]
                        for turn in turns:
                            scrolls.append(turn_by(rooms, (scrolls[-1], 0), turn)[0])
                        along.append([seen[at] for at in scrolls])
                    for told in along + [along[0][:-1] + [[("row", 9)]], [[("row", 9)]] + along[0][1:]]:
                        starts = [at for at, there in enumerate(along) if there == told]
                        self.assertEqual(told_starts(view, height, turns, told), starts)

    def test_told_starts_errors(self):
        for seen in ([], [[]], [[], [], []]):
            self.assertEqual(error_of(told_starts, example_view(), 2, [GREAT], seen), (InvalidNumber, len(seen)))
            self.assertEqual(error_of(told_starts, example_view(), 0, [GREAT], seen), (InvalidNumber, 0))
        self.assertEqual(error_of(told_starts, example_view(), 2, [], []), (InvalidNumber, 0))


class RowsTest(unittest.TestCase):
    def test_fewest_scrolls(self):
        self.assertEqual(fewest_scrolls(example_view(), 3, [0, 1, 2]), [0, 2])
        self.assertEqual(fewest_scrolls(example_view(), 2, [2, 0]), [0, 3])
        self.assertIsNone(fewest_scrolls(view=example_view(), height=1, rows=[0]))
        self.assertEqual(fewest_scrolls(example_view(), 1, []), [])
        for view in some_views():
            for height in heights(view):
                seen = seen_at_all(view, height)
                for rows in row_lists(view.open_rows()):
                    lists = [told for told in sublists(range(len(seen)))
                             if all(any(("row", row) in seen[at] for at in told) for row in rows)]
                    self.assertEqual(fewest_scrolls(view, height, rows), lists[0] if lists else None)

    def test_never_together(self):
        self.assertEqual(never_together(example_view(), 3, [0, 1, 2]), [0, 2])
        self.assertIsNone(never_together(view=example_view(), height=1, rows=[0]))
        self.assertEqual(never_together(example_view(), 1, []), [])
        for view in some_views():
            for height in heights(view):
                seen = [set(there) for there in seen_at_all(view, height)]
                for rows in row_lists(view.open_rows()):
                    told = never_together(view, height, rows)
                    if not all(any(("row", row) in there for there in seen) for row in rows):
                        self.assertIsNone(told)
                        continue
                    in_order = [row for row in view.open_rows() if row in rows]
                    lists = [list(some) for number in range(len(rows) + 1)
                             for some in itertools.combinations(in_order, number)
                             if not any({("row", one), ("row", other)} <= there for there in seen
                                        for one, other in itertools.combinations(some, 2))]
                    longest = max(len(some) for some in lists)
                    self.assertEqual(told, min(some for some in lists if len(some) == longest))
                    self.assertEqual(len(told), len(fewest_scrolls(view, height, rows)))

    def test_least_height(self):
        self.assertEqual([least_height(example_view(), [1, 2]), least_height(example_view(), [0])], [(4, 1), (2, 0)])
        self.assertIsNone(least_height(view=example_view(), rows=[]))
        self.assertEqual(least_height(view_of(example_table()), [2]), (1, 2))
        for view in some_views():
            for rows in row_lists(view.open_rows()):
                found = [(height, scroll) for height in heights(view)
                         for scroll, seen in enumerate(seen_at_all(view, height))
                         if all(("row", row) in seen for row in rows)]
                self.assertEqual(least_height(view, rows), found[0] if rows else None)

    def test_errors(self):
        for call in (fewest_scrolls, never_together):
            self.assertEqual(error_of(call, folded_view(), 0, [1, 1]), (InvalidNumber, 0))
        calls = [lambda view, rows: fewest_scrolls(view, 3, rows), lambda view, rows: never_together(view, 3, rows),
                 least_height]
        for call in calls:
            self.assertEqual(error_of(call, folded_view(), [0, 0, 4, 1]), (InvalidRow, 4))
            self.assertEqual(error_of(call, folded_view(), [0, -1, 9]), (InvalidRow, -1))
            self.assertEqual(error_of(call, folded_view(), [0, 5]), (InvalidRow, 5))
            self.assertEqual(error_of(call, folded_view(), [3, 0, 3]), (InvalidRows, [3, 0, 3]))
            self.assertIsNone(error_of(call, folded_view(), [3, 0]))
        # With height 1 a row that is never seen has a line all the same.
        self.assertEqual(error_of(fewest_scrolls, folded_view(), 1, [3, 3]), (InvalidRows, [3, 3]))


class FewestToSeeTest(unittest.TestCase):
    def test_examples(self):
        view = example_view()
        self.assertEqual(fewest_to_see(view, 4, [0, 2]), None)
        self.assertEqual(fewest_to_see(view=view, height=5, rows=[0, 2]), [])
        self.assertEqual(fewest_to_see(view, 1, []), [])
        self.assertEqual(fewest_to_see(folded_view(), 9, [1, 0]), [("all",)])
        self.assertEqual(fewest_to_see(view_of(empty_table()), 1, []), [])
        thirds = view_of(Table(1, [[1], [2], [2], [2], [3]]), [(0, 1)])
        self.assertEqual(fewest_to_see(thirds, 5, [0, 4]), [("fold", 2)])
        self.assertIsNone(fewest_to_see(thirds, 4, [0, 4]))

    def test_all_deeds(self):
        for view in some_views(8):
            values = sorted(value for value, rows in view.groups())
            deeds = [("all",)] + [("fold", value) for value in values] + [("one", value) for value in values]
            for height in range(1, len(view) + 3, 2):
                for rows in sublists(view.shown())[::2]:
                    def behind(state, deed):
                        folds = [list(folded) for folded in state]
                        there = View(view.table, view.sorting, view.filters, folds).done([deed])
                        return tuple([tuple(folded) for folded in there.folds])

                    def is_wanted(state):
                        there = View(view.table, view.sorting, view.filters, [list(folded) for folded in state])
                        return any(all(("row", row) in seen for row in rows) for seen in seen_at_all(there, height))
                    start = tuple([tuple(folded) for folded in view.folds])
                    self.assertEqual(fewest_to_see(view, height, rows), first_list(start, deeds, behind, is_wanted))

    def test_errors(self):
        hidden = view_of(example_table(), [(0, 1)], None, [(2, None), (None, None)])
        self.assertEqual(error_of(fewest_to_see, hidden, 0, [1]), (InvalidNumber, 0))
        for rows in ([0, 1], [5], [-1], [0, 0], [2, 0, 2]):
            self.assertEqual(error_of(fewest_to_see, hidden, 3, rows), (InvalidRows, rows))
        self.assertIsNone(error_of(fewest_to_see, folded_view(), 3, [1]))


class LimitsTest(unittest.TestCase):
    def test_great_views(self):
        table = great_table()
        for view in (view_of(table), view_of(table, [(2, 1), (0, -1)]), view_of(table, [(1, -1)], [[]] + [[5]] * 4)):
            lines = view.lines()
            for height in (2, 3, 7, 39, 81, GREAT):
                seen = seen_at_all(view, height)
                told = stops(view, height)
                self.assertTrue(all(any(line in seen[at] for at in told) for line in lines))
                rows = view.open_rows()[::-1]
                scrolls = fewest_scrolls(view, height, rows)
                self.assertTrue(all(any(("row", row) in seen[at] for at in scrolls) for row in rows))
                apart = never_together(view, height, rows)
                self.assertEqual(len(apart), len(scrolls))
                self.assertFalse(any(sum(("row", row) in there for row in apart) > 1 for there in seen))
                turns = [GREAT, -GREAT, 3] * 20
                along = [len(seen) - 1, 0, min(3, len(seen) - 1)] * 20
                told = [seen[0]] + [seen[at] for at in along]
                self.assertEqual(told_starts(view, height, turns, told)[0], 0)
            height, scroll = least_height(view, [rows[0], rows[-1]])
            self.assertTrue({("row", rows[0]), ("row", rows[-1])} <= set(seen_lines(view, height, scroll)))
