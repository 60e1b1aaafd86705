"""listwindow/wishes.py, with [7], [10], [11], [14], [16], [19], [22] and [23]."""

import itertools
import random
import unittest

from listwindow.errors import (InvalidColumn, InvalidDeed, InvalidMarks, InvalidNumber, InvalidOrder, InvalidRow,
                               InvalidRows, UnknownPlace)
from listwindow.filters import open_filters
from listwindow.houses import House
from listwindow.markways import cost_orders
from listwindow.seen import fewest_scrolls
from listwindow.tables import Table
from listwindow.views import View
from listwindow.windows import Window
from listwindow.wishes import fewest_for_order, fewest_for_rows, judge_plan, least_marked_lines, plan
from tests.support import (all_sortings, click, click_all, click_lists, error_of, first_list, least_cost, order_by,
                           random_table, shown_by, sublists, ways_from)
from tests.window_model import WindowModel, chances, example_house, random_house, random_script

NO_MARKING = ["sort", "sort", "only", "fold", "turn", "visit"]


def stripes(rows=6):
    return House([("all", Table(1, [[1], [2]] * (rows // 2)))])


def house_with(table):
    """The table is that of the second place: what is told is told of the place where one is."""
    return House([("first", Table(1, [[5]])), ("here", table)])


THERE = [("visit", "here")]


def behind(house, script):
    return WindowModel(house, 3, 2).do_all(script).here()


class OrderTest(unittest.TestCase):
    def test_examples(self):
        house = stripes()
        self.assertEqual(fewest_for_order(house, 9, 0, [("sort", 0)], [1, 3, 5, 0, 2, 4]), [("sort", 0)])
        self.assertEqual(fewest_for_order(house=house, height=9, room=0, script=[], order=[0, 1, 2, 3, 4, 5]), [])
        self.assertIsNone(fewest_for_order(house, 9, 0, [("sort", 0)], [0, 1, 2, 3, 4, 5]))
        self.assertEqual(fewest_for_order(House([("none", Table(2, []))]), 1, 0, [], []), [])

    def test_all_orders(self):
        for chance in chances(12):
            table = random_table(chance, 2, chance.randrange(1, 5))
            house = house_with(table)
            script = THERE + random_script(chance, House([("here", table)]), 4)
            sorting = behind(house, script).view.sorting
            ways = ways_from(2, sorting)
            for order in itertools.permutations(range(len(table))):
                found = [way for keys, some in ways.items() if order_by(table, list(keys)) == list(order) for way in some]
                told = min(found, key=lambda way: (len(way), way), default=None)
                self.assertEqual(fewest_for_order(house, 3, 2, script, list(order)),
                                 told if told is None else [("sort", column) for column in told])

    def test_hidden_rows_stand_in_the_order_too(self):
        house = house_with(Table(1, [[2], [1], [3]]))
        script = THERE + [("only", 0, 9, None)]
        self.assertEqual(fewest_for_order(house, 3, 0, script, [1, 0, 2]), [("sort", 0)])

    def test_at_the_limits(self):
        table = random_table(random.Random(1), 5, 6, 3)
        house = house_with(table)
        order = order_by(table, [(4, -1), (3, 1), (2, -1), (1, 1), (0, -1)])
        script = fewest_for_order(house, 3, 0, THERE, order)
        self.assertEqual(order_by(table, click_all([], [column for _, column in script])), order)


class RowsTest(unittest.TestCase):
    def test_examples(self):
        self.assertEqual(fewest_for_rows(stripes(), 9, 0, [], [1, 3, 5]), [("only", 0, 2, 2)])
        self.assertIsNone(fewest_for_rows(house=stripes(), height=9, room=0, script=[], rows=[0, 1]))
        self.assertEqual(fewest_for_rows(stripes(), 9, 0, [], [5, 4, 3, 2, 1, 0]), [])
        self.assertEqual(fewest_for_rows(stripes(), 9, 0, [], []), [("only", 0, 1, 0)])
        self.assertEqual(fewest_for_rows(stripes(), 9, 0, [("only", 0, 7, 7)], []), [])

    def test_all_rows(self):
        for chance in chances(20):
            table = random_table(chance, chance.randrange(1, 4), chance.randrange(6))
            house = house_with(table)
            script = THERE + random_script(chance, House([("here", table)]), 4)
            filters = behind(house, script).view.filters
            for rows in sublists(range(len(table))):
                told = fewest_for_rows(house, 3, 2, script, rows[::-1])
                # Of all filters that differ at some columns the narrowest that let the rows are enough.
                cells = [[table.cell(row, column) for row in rows] for column in range(table.width)]
                tight = [("only", column, min(some, default=1), max(some, default=0))
                         for column, some in enumerate(cells)]
                found = None
                for columns in sublists(range(table.width)):
                    some = list(filters)
                    for column in columns:
                        some[column] = tight[column][2:]
                    if found is None and shown_by(table, some) == rows:
                        found = [tight[column] for column in columns]
                self.assertEqual(told, found)
                if told is not None:
                    self.assertEqual(sorted(behind(house, script + told).view.shown()), rows)


class PlanTest(unittest.TestCase):
    def assert_plan(self, house, script, order, marks, fewest):
        told = plan(house=house, height=3, room=2, script=script, order=order, marks=marks)
        if fewest is None:
            self.assertIsNone(told)
            return
        self.assertEqual(len(told), fewest)
        words = ["s" if deed[0] == "sort" else "m" for deed in told]
        self.assertRegex("".join(words), "^s*m*s*$")
        there = behind(house, script + told)
        self.assertEqual(there.marks, marks)
        if order is not None:
            self.assertEqual(order_by(there.view.table, there.view.sorting), order)
        self.assertEqual(judge_plan(house, 3, 2, script, order, marks, told), fewest)

    def test_examples(self):
        house = stripes()
        told = plan(house, 9, 0, [], None, [0, 2, 4])
        self.assertEqual((len(told), judge_plan(house, 9, 0, [], None, [0, 2, 4], told)), (3, 3))
        self.assertEqual(judge_plan(house, 9, 0, [], [0, 1, 2, 3, 4, 5], [0, 2, 4],
                                    [("click", 0), ("click", 2), ("click", 4)]), 3)
        self.assertEqual(plan(house, 9, 0, [], None, []), [])
        self.assertEqual(plan(house, 9, 0, [("sort", 0)], [1, 3, 5, 0, 2, 4], []), [("sort", 0)])
        # At the one sorting the marks are cheap, at the other one they have to be shown.
        self.assertEqual(plan(house, 9, 0, [("sort", 0)], [1, 3, 5, 0, 2, 4], [0, 2, 4]),
                         [("click", 0), ("range", 2), ("sort", 0)])
        self.assertIsNone(plan(house, 9, 0, [("sort", 0)], [0, 1, 2, 3, 4, 5], [0]))

    def test_all_orders_and_marks(self):
        # The shortest of all: clicks on heads to any sorting, the fewest clicks on rows there, clicks on heads on.
        for chance in chances(8):
            table = random_table(chance, chance.randrange(1, 3), chance.randrange(1, 5))
            house = house_with(table)
            script = THERE + [("sort", chance.randrange(table.width)) for _ in range(chance.randrange(3))]
            start = behind(house, script).view.sorting
            ways = {keys: (len(some[0]), ways_from(table.width, keys)) for keys, some in
                    ways_from(table.width, start).items()}
            shown = {keys: order_by(table, list(keys)) for keys in ways}
            costs = {}
            for marks in sublists(range(len(table)))[::2]:
                fewest = {}
                for keys, (number, onward) in ways.items():
                    key = (tuple(shown[keys]), tuple(marks))
                    if key not in costs:
                        costs[key] = least_cost(shown[keys], marks)
                    for goal, some in onward.items():
                        order = tuple(shown.get(goal) or order_by(table, list(goal)))
                        told = number + costs[key] + len(some[0])
                        fewest[order] = min(told, fewest.get(order, told))
                for order in list(itertools.permutations(range(len(table))))[::2]:
                    self.assert_plan(house, script, list(order), marks, fewest.get(order))
                self.assert_plan(house, script, None, marks, min(fewest.values()))

    def test_no_script_that_marks_at_one_sorting_alone_is_shorter(self):
        table = Table(2, [[1, 2], [2, 1], [1, 1]])
        house = House([("all", table)])
        for marks in sublists(range(3)):
            for order in itertools.permutations(range(3)):
                told = plan(house, 3, 2, [], list(order), marks)
                if told is None:
                    continue
                for number in range(min(len(told), 4)):
                    for clicks in click_lists(2, number):
                        rest = number - len(clicks)
                        for rows in itertools.product([("click", at) for at in range(3)] + [("range", at) for at in range(3)],
                                                      repeat=rest):
                            for cut in range(len(clicks) + 1):
                                script = [("sort", at) for at in clicks[:cut]] + list(rows) + [("sort", at) for at
                                                                                             in clicks[cut:]]
                                self.assertIsNone(judge_plan(house, 3, 2, [], list(order), marks, script))

    def test_never_shorter_than_the_cost_at_the_cheapest_sorting(self):
        for chance in chances(10):
            table = random_table(chance, 2, 6, 2)
            house = house_with(table)
            for marks in sublists(range(6))[::5]:
                self.assertGreaterEqual(len(plan(house, 3, 0, THERE, None, marks)), cost_orders(table, marks)[0][0])

    def test_at_the_limits(self):
        table = random_table(random.Random(4), 2, 6, 3)
        house = House([(name, table) for name in ("a", "b", "c", "d", "e", "f")])
        script = [("visit", name) for name in "bcdef"] * 11 + [("sort", 0)]
        order = order_by(table, [(1, -1), (0, 1)])
        told = plan(house, 9, 10 ** 30 - 1, script, order, [0, 2, 5])
        self.assertEqual(judge_plan(house, 9, 10 ** 30 - 1, script, order, [0, 2, 5], told), len(told))
        self.assertEqual(judge_plan(house, 9, 0, script, None, [], [("turn", 1)] * 60), 60)

    def test_where_something_is_hidden_folded_marked_or_anchored(self):
        house = example_house()
        for script in ([("only", 0, 2, None)], [("sort", 0), ("fold", 1)], [("sort", 0), ("fold", 9)],
                       [("sort", 0), ("fold", 9), ("sort", 1)], [("click", 0)], [("click", 0), ("click", 0)]):
            for order in (None, [0, 1, 2, 3, 4]):
                self.assertEqual(error_of(plan, house, 3, 0, script, order, [1]), (InvalidMarks, [1]))
                self.assertEqual(error_of(plan, house, 3, 0, script, order, []), (InvalidMarks, []))
            # The other functions ask for nothing of this, and at another place it does not matter.
            self.assertIsNone(error_of(judge_plan, house, 3, 0, script, None, [1], []))
            self.assertIsNone(error_of(plan, house, 3, 0, script + [("visit", "few")], None, [0]))
        self.assertIsNone(error_of(plan, house, 3, 0, [("only", 0, 1, 3), ("turn", 4)], None, [1]))


class JudgeTest(unittest.TestCase):
    def test_any_sort_of_deeds(self):
        for chance in chances(30):
            house = random_house(chance, most=4)
            script, told = random_script(chance, house, 4), random_script(chance, house, 6)
            model = WindowModel(house, 3, 2).do_all(script)
            name = model.trail[-1]
            place = model.do_all(told).places[name]
            order = order_by(house[name], place.view.sorting)
            self.assertEqual(judge_plan(house, 3, 2, script, order, place.marks, told), 6)
            self.assertEqual(judge_plan(house=house, height=3, room=2, script=script, order=None, marks=place.marks,
                                        told=told), 6)
            for marks in sublists(range(len(house[name]))):
                expected = 6 if marks == place.marks else None
                self.assertEqual(judge_plan(house, 3, 2, script, None, marks, told), expected)
            for other in itertools.permutations(range(len(order))):
                expected = 6 if list(other) == order else None
                self.assertEqual(judge_plan(house, 3, 2, script, list(other), place.marks, told), expected)

    def test_it_is_the_place_where_one_was(self):
        house = example_house()
        told = [("visit", "few"), ("click", 0), ("sort", 0)]
        self.assertEqual(judge_plan(house, 3, 0, [], [0, 1, 2, 3, 4], [], told), 3)
        self.assertIsNone(judge_plan(house, 3, 0, [], None, [0], told))
        self.assertEqual(judge_plan(house, 3, 0, [("visit", "few")], None, [0], told), 3)
        self.assertEqual(judge_plan(house, 3, 0, [("click", 1)], None, [1], []), 0)

    def test_deeds_that_raise_errors(self):
        for deed in (("sort", 2), ("visit", "x"), ("turn",), ("mark", 1), ()):
            for told in ([deed], [("click", 0), ("click", 0), deed], [deed, ("turn", 0)]):
                self.assertIsNone(judge_plan(example_house(), 3, 0, [], None, [], told))


class LeastLinesTest(unittest.TestCase):
    def test_examples(self):
        house = House([("all", Table(1, [[1], [2], [1], [2]]))])
        self.assertEqual(least_marked_lines(house, 2, 0, [], [0, 2]), (2, []))
        self.assertEqual(least_marked_lines(house=house, height=3, room=0, script=[], marks=[0, 2]), (1, []))
        self.assertEqual(least_marked_lines(house, 3, 0, [], [1, 3]), (1, []))
        self.assertEqual(least_marked_lines(house, 3, 0, [("sort", 0)], [1, 3]), (1, [(0, -1)]))
        self.assertEqual(least_marked_lines(house, 1, 0, [], [1, 3]), (2, []))
        # With keys a row is never seen at height 1.
        self.assertIsNone(least_marked_lines(house, 1, 0, [("sort", 0)], [1, 3]))
        self.assertEqual(least_marked_lines(house, 1, 0, [("sort", 0)], []), (0, [(0, -1)]))
        self.assertIsNone(least_marked_lines(house, 5, 0, [("only", 0, 2, None)], [0]))

    def test_all_marks(self):
        for chance in chances(12):
            table = random_table(chance, chance.randrange(1, 3), chance.randrange(6))
            house = house_with(table)
            script = THERE + random_script(chance, House([("here", table)]), 3)
            view = behind(house, script).view
            reached = sorted([list(keys) for keys in ways_from(table.width, view.sorting)],
                             key=lambda keys: (len(keys), keys))
            for height in (1, 2, 3, 5):
                for marks in sublists(range(len(table)))[::2]:
                    found = []
                    for sorting in reached:
                        there = View(table, sorting, view.filters, [[] for _ in range(table.width)])
                        if set(marks) <= set(there.shown()):
                            scrolls = fewest_scrolls(there, height, marks)
                            if scrolls is not None:
                                found.append((len(scrolls), sorting))
                    told = min(found, key=lambda pair: pair[0], default=None)
                    self.assertEqual(least_marked_lines(house, height, 2, script, marks), told)

    def test_what_is_folded_there_does_not_matter(self):
        house = House([("all", Table(1, [[1], [2], [1], [2]]))])
        for script in ([("sort", 0), ("fold", 1)], [("sort", 0), ("one", 2)]):
            self.assertEqual(least_marked_lines(house, 3, 0, script, [0, 2]), (1, [(0, -1)]))


class ErrorsTest(unittest.TestCase):
    def calls(self):
        return [(fewest_for_order, ([0, 0],)), (fewest_for_rows, ([9],)), (plan, ([0, 0], [9])),
                (judge_plan, ([0, 0], [9], [])), (least_marked_lines, ([9],))]

    def test_those_of_the_script_come_first(self):
        house = example_house()
        for call, rest in self.calls():
            self.assertEqual(error_of(call, house, 0, -1, [("sort", 9)], *rest), (InvalidNumber, 0))
            self.assertEqual(error_of(call, house, 1, -1, [("sort", 9)], *rest), (InvalidNumber, -1))
            self.assertEqual(error_of(call, house, 1, 0, [("sort", 9), ("turn",)], *rest), (InvalidColumn, 9))
            self.assertEqual(error_of(call, house, 1, 0, [("turn",), ("sort", 9)], *rest), (InvalidDeed, ("turn",)))
            self.assertEqual(error_of(call, house, 1, 0, [("visit", "x")], *rest), (UnknownPlace, "x"))

    def test_orders(self):
        house = example_house()
        for order in ([0, 0], [], [0, 1, 2, 3], [0, 1, 2, 3, 5], [0, 1, 2, 3, 3], [0, 1, 2, 3, 4, 4], [-1, 0, 1, 2, 3]):
            self.assertEqual(error_of(fewest_for_order, house, 3, 0, [], order), (InvalidOrder, order))
            self.assertEqual(error_of(plan, house, 3, 0, [("click", 1)], order, [9]), (InvalidOrder, order))
            self.assertEqual(error_of(judge_plan, house, 3, 0, [], order, [9], [("turn",)]), (InvalidOrder, order))

    def test_rows(self):
        house = example_house()
        self.assertEqual(error_of(fewest_for_rows, house, 3, 0, [], [0, 0, 5, -1]), (InvalidRow, 5))
        self.assertEqual(error_of(fewest_for_rows, house, 3, 0, [], [0, -1, 0, 5]), (InvalidRow, -1))
        self.assertEqual(error_of(fewest_for_rows, house, 3, 0, [], [3, 0, 3]), (InvalidRows, [3, 0, 3]))

    def test_marks(self):
        house = example_house()
        for marks in ([1, 0], [0, 0], [5], [-1], [0, 5], [-1, 0]):
            for order in (None, [0, 1, 2, 3, 4]):
                self.assertEqual(error_of(plan, house, 3, 0, [], order, marks), (InvalidMarks, marks))
                self.assertEqual(error_of(judge_plan, house, 3, 0, [], order, marks, [("turn",)]), (InvalidMarks, marks))
            self.assertEqual(error_of(least_marked_lines, house, 3, 0, [], marks), (InvalidMarks, marks))
            # Also if no sorting shows the order.
            self.assertEqual(error_of(plan, house, 3, 0, [], [3, 0, 1, 2, 4], marks), (InvalidMarks, marks))
        self.assertIsNone(plan(house, 3, 0, [], [3, 0, 1, 2, 4], [0]))

    def test_filters_stay(self):
        # What is asked for changes no window.
        window = Window(example_house(), 3, 0)
        fewest_for_rows(example_house(), 3, 0, [], [1])
        self.assertEqual(window.view().filters, open_filters(2))
        self.assertEqual(click([], 0), [(0, 1)])


class FirstTest(unittest.TestCase):
    def test_first_of_the_shortest(self):
        # The first, as lists, of all scripts of clicks on heads that are tried, by length.
        table = Table(2, [[1, 2], [1, 1], [2, 1], [2, 2]])
        house = House([("all", table)])
        for order in {tuple(order_by(table, sorting)) for sorting in all_sortings(2)}:
            told = first_list((), [("sort", 0), ("sort", 1)],
                              lambda state, deed: tuple(click(list(state), deed[1])),
                              lambda state, wanted=list(order): order_by(table, list(state)) == wanted)
            self.assertEqual(fewest_for_order(house, 3, 0, [], list(order)), told)
