"""What the modules promise together: parts and ranks of tables, lists of rows turned about and joined, costs."""

import itertools
import random
import unittest

from listwindow.barring import barring, usable
from listwindow.bounds import fewest_bounds, hosts
from listwindow.closures import can_be_shown, closed_sets, closure, least_rows, tight
from listwindow.covers import clicks_of_cover, count_covers, cover_at, idle_clicks, is_cheapest, makers
from listwindow.effects import effect_of, marks_by, then
from listwindow.filters import let_rows, open_filters, part
from listwindow.folding import open_states
from listwindow.marks import anchor_after, blocks, borders, cost, marked
from listwindow.markways import cheapest_clicks, cheapest_sorting, cost_orders, fewest, fewest_anyhow, one_stop
from listwindow.shapes import ranked
from listwindow.sortings import order_of
from listwindow.sortways import nearest, order_distance, orders
from listwindow.views import View
from tests.support import (all_lists, all_sortings, many_filters, random_table, row_clicks, shuffled, some_clicks,
                           some_tables, sublists)
from tests.test_marks import ANCHORS


class PartTest(unittest.TestCase):
    """What is told of the shown rows is told of the part of the table that has just these, by their places."""

    def setUp(self):
        chance = random.Random(1)
        self.cases = []
        for table in [random_table(chance, 2, rows, 3) for rows in (0, 1, 3, 4, 5, 6, 6, 7)]:
            for _ in range(5):
                filters = [chance.choice(many_filters(table.column(at))) for at in range(2)]
                sorting = chance.choice(all_sortings(2))
                folds = [chance.sample(range(4), chance.randrange(4)) for _ in range(2)]
                self.cases.append((View(table, sorting, filters, folds), *part(table, filters)))

    def test_orders_groups_and_lines(self):
        for view, few, rows in self.cases:
            there = View(few, view.sorting, open_filters(2), view.folds)
            self.assertEqual(view.shown(), [rows[place] for place in order_of(few, view.sorting)])
            self.assertEqual(view.open_rows(), [rows[place] for place in there.open_rows()])
            self.assertEqual(view.groups(), [(value, [rows[place] for place in told]) for value, told in there.groups()])
            self.assertEqual(view.lines(), [line if line[0] == "head" else ("row", rows[line[1]])
                                            for line in there.lines()])
            self.assertEqual((len(view), open_states(view)), (len(there), open_states(there)))

    def test_closures(self):
        for view, few, rows in self.cases:
            for places in sublists(range(len(rows)))[::3]:
                told = [rows[place] for place in places]
                self.assertEqual(closure(view.table, told), [rows[place] for place in closure(few, places)])
                self.assertEqual(can_be_shown(view.table, told), can_be_shown(few, places))
                if places:
                    self.assertEqual(tight(view.table, told), tight(few, places))
                for place in range(len(rows)):
                    found = hosts(few, places, place)
                    self.assertEqual(hosts(view.table, told, rows[place]),
                                     found if found is None else [rows[at] for at in found])

    def test_marks(self):
        chance = random.Random(2)
        for view, few, rows in self.cases:
            places = order_of(few, view.sorting)
            for marks in sublists(range(len(rows)))[::4]:
                told = [rows[place] for place in marks]
                self.assertEqual(cost(view.shown(), told), cost(places, marks))
                self.assertEqual(cheapest_clicks(view.shown(), told), cheapest_clicks(places, marks))
                clicks = some_clicks(chance, len(rows), 4) if rows else []
                made, _ = marked(places, marks, None, clicks)
                self.assertEqual(marked(view.shown(), told, None, clicks)[0], [rows[place] for place in made])


class ClosureTest(unittest.TestCase):
    def test_closures_hold_their_rows_and_grow_with_them(self):
        for table in some_tables(2, number=10):
            for rows in sublists(range(len(table))):
                held = closure(table, rows)
                self.assertLessEqual(set(rows), set(held))
                self.assertEqual(closure(table, held), held)
                for row in range(len(table)):
                    self.assertLessEqual(set(held), set(closure(table, sorted(set(rows) | {row}))))

    def test_a_row_that_is_put_in(self):
        for table in some_tables(2, number=8, most=4):
            for rows in sublists(range(len(table)))[1:]:
                for cells in itertools.product(range(-1, 4), repeat=2):
                    more = table.with_row(list(cells))
                    let = len(table) in let_rows(more, tight(table, rows))
                    self.assertEqual(tight(more, rows), tight(table, rows))
                    self.assertEqual(len(table) in closure(more, rows), let)


class RanksTest(unittest.TestCase):
    """The ranks of a table show the same orders, ways, barred orders, closures and costs as the table."""

    def setUp(self):
        chance = random.Random(3)
        self.tables = [table.with_row([10 ** 29, -10 ** 29]) for table in some_tables(2, number=8, most=4)]
        self.tables += [random_table(chance, 2, 5, 9) for _ in range(4)]

    def test_orders_ways_and_barred_orders(self):
        for table in self.tables:
            same = ranked(table)
            self.assertEqual(orders(same), orders(table))
            for order in list(itertools.permutations(range(len(table))))[::5]:
                self.assertEqual(usable(same, list(order)), usable(table, list(order)))
                self.assertEqual(barring(same, list(order)), barring(table, list(order)))
                self.assertEqual(nearest(same, [(1, 1)], list(order)), nearest(table, [(1, 1)], list(order)))
                self.assertEqual(order_distance(same, orders(same)[0], list(order)),
                                 order_distance(table, orders(table)[0], list(order)))

    def test_closures(self):
        for table in self.tables:
            same = ranked(table)
            self.assertEqual(closed_sets(same), closed_sets(table))
            for rows in sublists(range(len(table))):
                self.assertEqual(least_rows(same, rows), least_rows(table, rows))
                if rows:
                    self.assertEqual(fewest_bounds(same, rows), fewest_bounds(table, rows))

    def test_costs(self):
        for table in self.tables:
            same = ranked(table)
            for marks in sublists(range(len(table)))[::3]:
                self.assertEqual(cost_orders(same, marks), cost_orders(table, marks))
                self.assertEqual(cheapest_sorting(same, [(1, -1)], marks), cheapest_sorting(table, [(1, -1)], marks))
                self.assertEqual(one_stop(same, [], [(0, 1)], marks), one_stop(table, [], [(0, 1)], marks))
            self.assertEqual(fewest_anyhow(same, [], [0]), fewest_anyhow(table, [], [0]))


class TurnedAboutTest(unittest.TestCase):
    """A list of rows that is turned about, each position with it."""

    def test_turned_about(self):
        chance = random.Random(4)
        for _ in range(300):
            there = shuffled(chance, range(9))[:chance.randrange(1, 9)]
            last = len(there) - 1
            clicks = some_clicks(chance, len(there), chance.randrange(8))
            back = [(word, last - position) for word, position in clicks]
            marks = sorted(chance.sample(range(9), 4))
            anchor = chance.choice(ANCHORS + there)
            self.assertEqual(marked(there[::-1], marks, anchor, back), marked(there, marks, anchor, clicks))
            self.assertEqual(effect_of(9, there[::-1], anchor, back), effect_of(9, there, anchor, clicks))
            self.assertEqual(borders(there[::-1], marks), [last + 1 - border for border in borders(there, marks)[::-1]])
            marks = [row for row in marks if row in there]
            self.assertEqual(cost(there[::-1], marks), cost(there, marks))
            self.assertEqual(count_covers(there[::-1], marks), count_covers(there, marks))
            index = chance.randrange(count_covers(there, marks))
            cover = [tuple([last + 1 - border for border in token[::-1]]) for token in cover_at(there, marks, index)[::-1]]
            self.assertEqual(len(clicks_of_cover(there[::-1], marks, cover)), cost(there, marks))


class JoinedTest(unittest.TestCase):
    """Two lists of rows that are joined, with their marks, clicks and effects."""

    def test_clicks_and_effects(self):
        chance = random.Random(5)
        for _ in range(200):
            rows = shuffled(chance, range(9))
            one, other = rows[:4], rows[4:]
            clicks = some_clicks(chance, 4, 4)
            more = [("click", chance.randrange(5))] + some_clicks(chance, 5, 3)
            moved = [(word, position + 4) for word, position in more]
            # A click ahead of all others gives each list an anchor of its own.
            effect = then(effect_of(9, one, None, clicks), effect_of(9, other, None, more))
            self.assertEqual(effect_of(9, one + other, None, clicks + moved), effect)
            marks = sorted(chance.sample(range(9), 4))
            made, _ = marked(one, marks, None, clicks)
            told, anchor = marked(one + other, marks, None, clicks + moved)
            self.assertEqual(told, marked(other, made, None, more)[0])
            self.assertEqual((told, anchor), (marks_by(effect, marks), anchor_after(other, None, more)))

    def test_costs(self):
        chance = random.Random(6)
        for _ in range(200):
            rows = shuffled(chance, range(10))
            one, between, other = rows[:4], rows[4:6], rows[6:]
            marks = sorted(chance.sample(one, 2)) + sorted(chance.sample(other, 2))
            mine, others = [sorted(row for row in marks if row in there) for there in (one, other)]
            both = cost(one, mine) + cost(other, others)
            self.assertLessEqual(cost(one + other, sorted(marks)), both)
            # With two rows between that are not marked no block reaches from the one list to the other.
            self.assertEqual(cost(one + between + other, sorted(marks)), both)
            self.assertEqual(blocks(one + between + other, sorted(marks)), blocks(one, mine) + [
                (first + 6, last + 6) for first, last in blocks(other, others)])


class CostTest(unittest.TestCase):
    def test_click_by_click(self):
        there = [2, 0, 3, 1]
        for marks in sublists(there):
            for anchor in ANCHORS + [0, 3]:
                for click in row_clicks(4):
                    made, _ = marked(there, marks, anchor, [click])
                    self.assertLessEqual(cost(there, made), cost(there, marks) + 1)
        chance = random.Random(7)
        there = shuffled(chance, range(40))
        clicks = some_clicks(chance, 40, 60)
        for number in range(61):
            made, _ = marked(there, [], None, clicks[:number])
            self.assertLessEqual(cost(there, made), number)

    def test_one_after_the_other(self):
        # From marks to others: as many clicks as the cost of the rows at which they differ are enough.
        there = [2, 0, 3, 1]
        for marks, goal in itertools.product(sublists(there), repeat=2):
            differing = sorted(set(marks) ^ set(goal))
            self.assertLessEqual(len(fewest(there, marks, None, goal)), len(differing))

    def test_shortest_lists_and_covers(self):
        for there in ([2, 0, 1], [1, 0, 3, 2]):
            for clicks in all_lists(row_clicks(len(there)), 3 if len(there) < 4 else 2):
                made, _ = marked(there, [], None, clicks)
                told = [border for border, index in makers(there, clicks)]
                self.assertEqual(told, borders(there, made))
                if is_cheapest(there, made, clicks):
                    self.assertEqual(idle_clicks(there, clicks), [])
                    self.assertEqual(len(clicks), len(cover_at(there, made, 0)))
                else:
                    self.assertGreater(len(clicks), cost(there, made))

    def test_all_best_covers_have_clicks_of_their_own(self):
        there = [3, 1, 0, 2, 4]
        for marks in sublists(there):
            covers = [cover_at(there, marks, index) for index in range(count_covers(there, marks))]
            lists = [clicks_of_cover(there, marks, cover) for cover in covers]
            self.assertEqual(covers, sorted(covers))
            self.assertEqual(len({tuple(clicks) for clicks in lists}), len(lists))
            self.assertTrue(all(is_cheapest(there, marks, clicks) for clicks in lists))
            self.assertEqual(cheapest_clicks(there, marks), lists[0])
