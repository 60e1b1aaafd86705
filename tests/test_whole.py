"""[1] and the section "Guarantees": what is promised over the whole program, held against live windows."""

import itertools
import random
import unittest

from listwindow.barring import barring, judge_barring
from listwindow.carried import deeds_on
from listwindow.clickforms import formed
from listwindow.closures import can_be_shown
from listwindow.effects import marks_by, sources_rise
from listwindow.filterways import by_filters, cheapest_filters, folds_for_marks
from listwindow.folding import fewest_folds
from listwindow.houses import House
from listwindow.markways import cheapest_clicks, cheapest_sorting, fewest_anyhow
from listwindow.opening import fewest_to_open
from listwindow.readings import read_lines, read_script, read_table
from listwindow.records import first_lie, sortings_told
from listwindow.rooms import fewest_turns, room_of
from listwindow.scriptforms import by_script, joined_scripts, script_for, script_form, scripts_apart
from listwindow.scripts import heads_of, marks_through, scroll_through, standing_after
from listwindow.seen import fewest_scrolls, fewest_to_see, stops
from listwindow.shapes import one_shape, ranked
from listwindow.sortings import order_of
from listwindow.sortways import sortings_showing
from listwindow.standings import comes_about, script_to
from listwindow.tables import Table
from listwindow.texts import show_lines, show_script, show_table
from listwindow.toldback import folded_for, sortings_for, standings_for
from listwindow.trails import visit_form, visits_alike, visits_between
from listwindow.trailways import tour
from listwindow.turnforms import short_form
from listwindow.viewforms import by_view_form, view_form
from listwindow.views import View
from listwindow.windows import Reader, Window
from listwindow.wishes import fewest_for_order, fewest_for_rows, judge_plan, plan
from tests.support import all_sortings, by_clicks, random_table, sublists
from tests.window_model import chances, example_house, random_house, random_script

FORMED = ["sort", "sort", "only", "visit"]


def one_place(table):
    return House([("here", table)])


def run(house, *scripts, height=3, room=4):
    window = Window(house, height, room)
    for script in scripts:
        window.run(script)
    return window


def stretched(chance, table):
    """A table of the same shape with other cells."""
    cells = sorted(set(cell for row in table.rows for cell in row))
    told = [{cell: at * 7 - chance.randrange(6) for at, cell in enumerate(cells)} for _ in range(table.width)]
    return Table(table.width, [[told[at][cell] for at, cell in enumerate(row)] for row in table.rows])


class OrderTest(unittest.TestCase):
    def test_the_order_is_always_that_of_the_sorting(self):
        # By the stable sorts of [6], and by the keys of [7], whatever else is done.
        for chance in chances(20):
            table = random_table(chance, 2, 6)
            script = random_script(chance, one_place(table), 25)
            window, order, last = Window(one_place(table), 3, 4), list(range(6)), None
            for deed in script:
                window(deed)
                if deed[0] == "sort":
                    order, last = by_clicks(table, order, last, [deed[1]])
                view = window.view()
                self.assertEqual(order_of(table, view.sorting), order)
                self.assertEqual(view.shown(), [row for row in order if row in view.shown()])

    def test_no_sorting_shows_what_is_barred(self):
        for chance in chances(6):
            table = random_table(chance, 2, 4)
            for order in itertools.permutations(range(4)):
                spots = barring(table, list(order))
                self.assertEqual(spots is None, sortings_showing(table, list(order)) != [])
                self.assertEqual(fewest_for_order(one_place(table), 3, 0, [], list(order)) is None, spots is not None)
                if spots is not None:
                    self.assertTrue(judge_barring(table, list(order), spots))

    def test_clicks_on_heads(self):
        for chance in chances(10):
            house = random_house(chance)
            script, more = random_script(chance, house, 15), random_script(chance, house, 15)
            sortings = [place[1] for place in standing_after(house, 3, 4, script)[1]]
            behind = [place[1] for place in standing_after(house, 3, 4, script + more)[1]]
            trail = standing_after(house, 3, 4, script)[0]
            # The same deeds of the later script, done from the places where they are done.
            ways = [("visit", name) for name in trail]
            forms = [form for _, form in heads_of(house, 3, 4, ways + more)]
            self.assertEqual([formed(form, sorting) for form, sorting in zip(forms, sortings)], behind)


class FormsTest(unittest.TestCase):
    def test_scripts_with_one_form_do_the_same_to_all_windows(self):
        for chance in chances(25):
            house = random_house(chance)
            script = random_script(chance, house, 12, FORMED)
            before = random_script(chance, house, 10)
            form = script_form(script)
            one, other = run(house, before, script), run(house, before, script_for(form))
            self.assertEqual(one.trail, other.trail)
            trail, places, _ = standing_after(house, 3, 4, before)
            told = [(name, sorting, filters) for name, sorting, filters, _, _, _, _ in places]
            behind = by_script(form, trail, told)
            self.assertEqual(behind[0], one.trail)
            for all_of in (before + script, before + script_for(form)):
                self.assertEqual([place[:3] for place in standing_after(house, 3, 4, all_of)[1]], behind[1])

    def test_what_parts_two_scripts_parts_two_windows(self):
        house = House([(name, Table(2, [[1, 2], [2, 1]])) for name in ("all", "b", "few")])
        chance = random.Random(1)
        told = set()
        for _ in range(400):
            one, other = [random_script(chance, house, chance.randrange(4), FORMED) for _ in range(2)]
            apart = scripts_apart(one, other)
            self.assertEqual(apart is None, script_form(one) == script_form(other))
            if apart is None:
                continue
            told.add(apart[0])
            if apart[0] == "visit":
                self.assertNotEqual(*[by_script(script_form(script), apart[1] or ["x"],
                                                [(name, [], [(None, None)] * 2) for name in
                                                 ["all", "b", "few", "x", "a", "c"]])[0] for script in (one, other)])
                continue
            # They part a window that is at a place which neither visits.
            sorting = apart[2] if apart[0] == "sort" else []
            places = [(name, sorting, [(7, 7)] * 2) for name in ["x", "all", "b", "few"]]
            self.assertNotEqual(by_script(script_form(one), ["x"], places), by_script(script_form(other), ["x"], places))
        self.assertEqual(told, {"sort", "only", "visit"})

    def test_joined_scripts(self):
        for chance in chances(10):
            house = random_house(chance)
            one, other = random_script(chance, house, 9, FORMED), random_script(chance, house, 9, FORMED)
            form = joined_scripts(script_form(one), script_form(other))
            self.assertEqual(standing_after(house, 3, 4, script_for(form))[0], run(house, one, other).trail)

    def test_visits_and_turns(self):
        for chance in chances(20):
            house = random_house(chance)
            before = random_script(chance, house, 6)
            trail = run(house, before).trail
            lists = [[chance.choice(house.names) for _ in range(chance.randrange(5))] for _ in range(6)]
            for one, other in itertools.combinations(lists, 2):
                if visits_alike(one, other):
                    told = [run(house, before, [("visit", name) for name in some]).trail for some in (one, other)]
                    self.assertEqual(told[0], told[1])
            goal = run(house, before, [("visit", name) for name in lists[0]]).trail
            self.assertEqual(run(house, before, [("visit", name) for name in visits_between(trail, goal)]).trail, goal)
            self.assertEqual(run(house, before, [("visit", name) for name in tour(trail, house.names, goal)]).trail, goal)
            turns = [chance.randrange(-6, 7) for _ in range(8)]
            told = [run(house, before, [("turn", turn) for turn in some]).scrolls for some in (turns, short_form(turns))]
            self.assertEqual(told[0], told[1])
            self.assertEqual(visit_form(lists[0]), visit_form(lists[0] + lists[0]))

    def test_deeds_of_views(self):
        for chance in chances(20):
            house = random_house(chance)
            before = random_script(chance, house, 8)
            view = run(house, before).view()
            deeds = random_script(chance, House([("a", view.table)]), 10, ["sort", "only", "fold", "all"])
            self.assertEqual(run(house, before, deeds).view(), by_view_form(view_form(deeds), view))


class ShapesTest(unittest.TestCase):
    def test_windows_on_tables_of_one_shape(self):
        # The same rows at the same lines, whatever is done, if the deeds are carried over.
        for chance in chances(30):
            table = random_table(chance, 2, chance.randrange(7))
            other = chance.choice([ranked(table), stretched(chance, table)])
            self.assertTrue(one_shape(table, other))
            windows = Window(one_place(table), 3, 4), Window(one_place(other), 3, 4)
            for deed in random_script(chance, one_place(table), 30):
                told = [deed]
                if deed[0] in ("sort", "only", "fold", "one", "all"):
                    told = deeds_on(table, other, windows[0].view().sorting, [deed])
                windows[0](deed)
                windows[1].run(told)
                self.assert_same(*windows)
            for one, more in zip(*[standing_after(one_place(some), 3, 4, window.log())[1]
                                   for some, window in zip((table, other), windows)]):
                self.assertEqual((one[1], one[4:]), (more[1], more[4:]))

    def assert_same(self, one, other):
        for mine, others in ((one.seen(), other.seen()), (one.view().lines(), other.view().lines())):
            self.assertEqual([line if line[0] == "row" else (line[0], line[2]) for line in mine],
                             [line if line[0] == "row" else (line[0], line[2]) for line in others])
        self.assertEqual((one.marks, one.scrolls), (other.marks, other.scrolls))


class MarksTest(unittest.TestCase):
    def test_what_changes_marks(self):
        for chance in chances(25):
            house = random_house(chance)
            script = random_script(chance, house, 20)
            for number, deed in enumerate(script):
                before, behind = [standing_after(house, 3, 4, script[:some]) for some in (number, number + 1)]
                if deed[0] in ("click", "range"):
                    # Marking changes no order, no fold and no scroll.
                    self.assertEqual((before[0], before[2]), (behind[0], behind[2]))
                    self.assertEqual([place[:4] + place[6:] for place in before[1]],
                                     [place[:4] + place[6:] for place in behind[1]])
                else:
                    self.assertEqual([place[4:6] for place in before[1]], [place[4:6] for place in behind[1]])

    def test_each_mark_has_its_source(self):
        for chance in chances(20):
            house = one_place(random_table(chance, 2, 6))
            before = random_script(chance, house, 8, ["sort", "only", "fold", "one"])
            there = run(house, before).view().open_rows()
            clicks = random_script(chance, house, 8, ["click", "range"])
            _, effect, _ = marks_through(house, 3, 4, before + clicks)[0]
            self.assertTrue(sources_rise(there, effect))
            self.assertEqual(marks_by(effect, []), run(house, before, clicks).marks)

    def test_clicks_that_lead_to_marks(self):
        for chance in chances(12):
            table = random_table(chance, 2, 6)
            house = one_place(table)
            before = random_script(chance, house, 4, ["sort", "only", "fold"])
            there = run(house, before).view().open_rows()
            for marks in sublists(there)[::3]:
                self.assertEqual(run(house, before, cheapest_clicks(there, marks)).marks, marks)
            marks = sorted(chance.sample(range(6), 3))
            number, heads, _ = cheapest_sorting(table, [], marks)
            script = [("sort", column) for column in heads]
            script += cheapest_clicks(run(house, script).view().open_rows(), marks)
            self.assertEqual((run(house, script).marks, len(script)), (marks, number))
            self.assertEqual(len(plan(house, 3, 4, [], None, marks)), number)

    def test_other_ways_to_marks(self):
        for chance in chances(12):
            table = random_table(chance, 2, 5)
            house, marks = one_place(table), sorted(chance.sample(range(5), 3))
            self.assertEqual(run(house, fewest_anyhow(table, [], marks)).marks, marks)
            number, columns, clicks = cheapest_filters(table, [(0, 1)], marks)
            rows = [table.rows[row] for row in marks]
            only = [("only", at, min(row[at] for row in rows), max(row[at] for row in rows)) for at in columns]
            self.assertEqual(run(house, [("sort", 0)] + only + clicks).marks, marks)
            self.assertEqual(number, len(only) + len(clicks))
            number, deeds = folds_for_marks(run(house, [("sort", 0)]).view(), marks)
            window = run(house, [("sort", 0)], deeds)
            self.assertEqual(window.run(cheapest_clicks(window.view().open_rows(), marks)), window.seen())
            self.assertEqual((window.marks, len(window.log()) - 1), (marks, number))


class ShownTest(unittest.TestCase):
    def test_rows_that_filters_show(self):
        for chance in chances(10):
            table = random_table(chance, 2, 5)
            before = random_script(chance, one_place(table), 5, ["only", "sort", "fold"])
            for rows in sublists(range(5)):
                script = fewest_for_rows(one_place(table), 3, 4, before, rows)
                self.assertEqual(script is not None, can_be_shown(table, rows))
                if script is not None:
                    self.assertEqual(sorted(run(one_place(table), before, script).view().shown()), rows)

    def test_open_rows(self):
        for chance in chances(15):
            house = one_place(random_table(chance, 2, 5))
            before = random_script(chance, house, 6, ["only", "sort", "fold", "one"])
            view = run(house, before).view()
            for rows in sublists(view.shown())[::2]:
                for call in (fewest_folds, fewest_to_open):
                    deeds = call(view, rows)
                    if deeds is not None:
                        self.assertEqual(sorted(run(house, before, deeds).view().open_rows()), rows)
            filters = by_filters(view)
            if filters is not None:
                told = View(view.table, view.sorting, filters, [[], []])
                self.assertEqual(told.open_rows(), view.open_rows())

    def test_all_is_seen(self):
        for chance in chances(15):
            house = one_place(random_table(chance, 2, 6))
            before = random_script(chance, house, 5, ["only", "sort", "fold"])
            window = run(house, before, room=0)
            view = window.view()
            rooms = (room_of(len(view), 3), 0)
            for scrolls, wanted in ((stops(view, 3), view.lines()),
                                    (fewest_scrolls(view, 3, view.open_rows()),
                                     [("row", row) for row in view.open_rows()])):
                seen = []
                for scroll in scrolls:
                    for turn in fewest_turns(rooms, window.scrolls, (scroll, 0)):
                        window(("turn", turn))
                    seen += window.seen()
                self.assertLessEqual(set(wanted), set(seen))
            rows = view.shown()[:2]
            deeds = fewest_to_see(view, 3, rows)
            if deeds is not None:
                self.assertLessEqual(set(rows), set(run(house, before, deeds).view().open_rows()))

    def test_a_head_stays_above_the_rows_of_its_group(self):
        for chance in chances(10):
            window = Window(one_place(random_table(chance, 2, 6)), chance.randrange(1, 5), 2)
            for deed in random_script(chance, one_place(window.view().table), 40):
                head, seen = None, window(deed)
                sorting = window.view().sorting
                self.assertLessEqual(len(seen), 4)
                for line in seen if sorting else []:
                    head = line[1] if line[0] == "head" else head
                    if line[0] == "row":
                        self.assertEqual(window.view().table.cell(line[1], sorting[0][0]), head)


class ScrollTest(unittest.TestCase):
    def test_window_and_page(self):
        for chance in chances(20):
            house = one_place(random_table(chance, 2, 6))
            script = random_script(chance, house, 15, ["sort", "fold", "only", "turn", "turn"])
            _, (shift, low, high) = scroll_through(house, 3, script)[0]
            self.assertEqual(run(house, script, room=0).scrolls, (max(low, min(high, shift)), 0))


class ToldBackTest(unittest.TestCase):
    def test_what_is_told_back_is_what_the_window_must_have_been(self):
        for chance in chances(20):
            table = random_table(chance, chance.randrange(1, 3), 5)
            house = one_place(table)
            script = random_script(chance, house, 8, ["sort", "turn"])
            window = run(house, script, room=0)
            view = window.view()
            self.assertIn((view.sorting, window.scrolls[0]), standings_for(table, 3, window.seen()))
            self.assertIn(view.sorting, sortings_for(table, view.lines()))
            if view.sorting:
                values = sorted(set(chance.choice(table.column(view.sorting[0][0])) for _ in range(2)))
                folded = [("fold", value) for value in values]
                self.assertEqual(folded_for(table, view.sorting, run(house, script, folded).view().lines()), values)

    def test_records_of_windows(self):
        for chance in chances(20):
            table = random_table(chance, 2, 6)
            start = chance.choice(all_sortings(2))
            keys = [("sort", column) for column, sign in start[::-1] for _ in range(1 if sign == 1 else 2)]
            window = run(one_place(table), keys, room=0)
            record = []
            for _ in range(5):
                clicks = [chance.randrange(2) for _ in range(chance.randrange(3))]
                window.run([("sort", column) for column in clicks])
                scroll = chance.randrange(6)
                window(("turn", scroll - window.scrolls[0]))
                record.append((clicks, scroll, window.seen()))
            self.assertIn(start, sortings_told(table, 3, record))
            self.assertIsNone(first_lie(table, 3, record))
            lie = record[:3] + [(record[3][0], 0, [("row", 77)])] + record[4:]
            self.assertEqual((first_lie(table, 3, lie), sortings_told(table, 3, lie)), (3, []))


class BackAndAgainTest(unittest.TestCase):
    def test_standings_come_about(self):
        for chance in chances(20):
            house = random_house(chance, ("all", "few"))
            script = random_script(chance, house, 12, ["sort", "only", "click", "range", "turn", "visit"])
            standing = standing_after(house, 3, 4, script)
            self.assertTrue(comes_about(house, 3, 4, standing))
            self.assertEqual(run(house, script_to(house, 3, 4, standing)), run(house, script))

    def test_texts_of_scripts_and_lines(self):
        for chance in chances(10):
            house = random_house(chance)
            script = [deed for deed in random_script(chance, house, 20) if deed[0] not in ("click", "range") or deed[1] >= 0]
            window = run(house, script)
            self.assertEqual(run(house, read_script(show_script(script))), window)
            self.assertEqual(read_lines(show_lines(window.seen())), window.seen())
            self.assertEqual(read_table(show_table(window.view().table)), window.view().table)
            self.assertEqual(read_script(show_script(window.log())), script)

    def test_whatever_was_done_can_be_taken_back_and_done_again(self):
        house = example_house()
        for kind in (Window, Reader):
            window = kind(house, 2, 3)
            first = window.twin()
            for deed in random_script(random.Random(3), one_place(house["all"]), 30, ["sort", "only", "fold", "turn"]):
                window(deed)
            last = window.twin()
            window.to(0)
            self.assertEqual(window, first)
            window.to(30)
            self.assertEqual((window, window.log()), (last, last.log()))


class PlansTest(unittest.TestCase):
    def test_plans_on_windows(self):
        for chance in chances(12):
            table = random_table(chance, 2, 5)
            house = House([("first", Table(1, [[1]])), ("here", table)])
            before = [("visit", "here")] + random_script(chance, one_place(table), 4, ["sort", "turn"])
            order = order_of(table, run(house, before, [("sort", 0)]).view().sorting)
            marks = sorted(chance.sample(range(5), 2))
            told = plan(house, 3, 4, before, order, marks)
            window = run(house, before, told)
            self.assertEqual((window.marks, window.view().shown()), (marks, order))
            self.assertEqual(judge_plan(house, 3, 4, before, order, marks, told), len(told))
