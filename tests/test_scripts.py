"""[22], [23] and listwindow/scripts.py, with [8], [15] and [18]."""

import itertools
import random
import unittest

from listwindow.clickforms import form_of
from listwindow.effects import marks_by
from listwindow.errors import InvalidColumn, InvalidDeed, InvalidNumber, UnknownPlace
from listwindow.houses import House
from listwindow.scripts import (commute, exchangeable, first_return, heads_of, idle, marks_through, needless,
                                scroll_through, standing_after)
from listwindow.tables import Table
from tests.support import error_of, random_table, sublists
from tests.test_windows import GREAT, NO_DEEDS
from tests.window_model import (WindowModel, chances, example_house, great_house, is_possible, random_deed,
                                random_house, random_script, room_by, small_scripts, standing_by, visit_by)


def small_house():
    return House([("all", Table(1, [[2], [1]])), ("few", Table(1, [[7]]))])


def wide_house():
    """A house in which a visit that is left out, or done later, makes a column one that there is not."""
    return House([("all", Table(1, [[2], [1]])), ("few", Table(2, [[7, 1]]))])


def cases(number=25, length=6):
    """Houses with scripts that raise no error, with short scripts of few sorts of deeds among them."""
    told = [(example_house(), script) for script in list(small_scripts(2)) if is_possible(example_house(), script)]
    told += [(wide_house(), [("visit", "few"), ("sort", 1), ("sort", 1), ("sort", 1), ("visit", "all"), ("sort", 0)])]
    for chance in chances(number):
        house = random_house(chance)
        for words in (None, ["sort", "turn", "visit"], ["click", "range", "sort"], ["fold", "one", "all", "sort"],
                      ["only", "sort", "click"]):
            told.append((house, random_script(chance, house, length, words)))
    return told


class StandingTest(unittest.TestCase):
    def test_example(self):
        self.assertEqual(standing_after(small_house(), 3, 0, [("sort", 0), ("click", 0), ("visit", "few")]),
                         (["all", "few"], [("all", [(0, 1)], [(None, None)], [[]], [1], 1, 0),
                                           ("few", [], [(None, None)], [[]], [], None, 0)], 0))

    def test_at_first(self):
        for house in (example_house(), great_house()):
            trail, places, page = standing_after(house=house, height=1, room=0, script=[])
            self.assertEqual((trail, page), (house.names[:1], 0))
            width = {name: house[name].width for name in house.names}
            self.assertEqual(places, [(name, [], [(None, None)] * width[name], [[]] * width[name], [], None, 0)
                                      for name in house.names])

    def test_all_short_scripts(self):
        house = example_house()
        for script in small_scripts(3):
            if is_possible(house, script):
                self.assertEqual(standing_after(house, 2, 3, script), standing_by(house, 2, 3, script))

    def test_random_scripts(self):
        for house, script in cases(length=30):
            for height, room in ((1, 0), (3, 4)):
                self.assertEqual(standing_after(house, height, room, script), standing_by(house, height, room, script))

    def test_what_becomes_of_a_place_hangs_on_the_deeds_done_at_it_alone(self):
        for chance in chances(15):
            house = random_house(chance)
            script = random_script(chance, house, 30, ["sort", "only", "fold", "one", "all", "click", "range", "turn",
                                                       "visit", "visit"])
            # Without a room of the page the turns of one place do nothing to another one either.
            _, places, _ = standing_after(house, 2, 0, script)
            for at, name in enumerate(house.names):
                trail, alone = house.names[:1], [("visit", name)]
                for deed in script:
                    if deed[0] == "visit":
                        trail = visit_by(trail, deed[1])
                    elif trail[-1] == name:
                        alone.append(deed)
                self.assertEqual(standing_after(house, 2, 0, alone)[1][at], places[at])

    def test_a_visit_changes_the_trail_alone(self):
        for house, script in cases(10):
            trail, places, page = standing_after(house, 2, 4, script)
            for name in house.names:
                self.assertEqual(standing_after(house, 2, 4, script + [("visit", name)]),
                                 (visit_by(trail, name), places, page))


class ChangingNothingTest(unittest.TestCase):
    def test_examples(self):
        house = small_house()
        self.assertEqual(idle(house, 3, 0, [("visit", "all"), ("turn", 5), ("sort", 0)]), [0, 1])
        self.assertEqual(needless(house, 3, 0, [("sort", 0)] * 3), [])
        self.assertEqual(first_return(house, 3, 0, [("sort", 0)] * 3), (1, 3))
        self.assertEqual(exchangeable(house, 3, 0, [("sort", 0), ("only", 0, 1, None), ("visit", "few")]), [0])
        for call in (idle, needless, exchangeable):
            self.assertEqual(call(house=house, height=3, room=0, script=[]), [])
        self.assertIsNone(first_return(house=house, height=3, room=0, script=[]))
        self.assertEqual(first_return(house, 3, 0, [("turn", 0), ("turn", 0)]), (0, 1))

    def test_scripts_that_would_raise_an_error(self):
        house = wide_house()
        script = [("visit", "few"), ("sort", 1), ("sort", 0)]
        self.assertEqual(needless(house, 3, 0, script), [])
        self.assertEqual(exchangeable(house, 3, 0, script), [])
        # Done earlier, or without the visit, ("sort", 1) is on a column that there is not.
        self.assertEqual(needless(house, 3, 0, [("visit", "few"), ("sort", 1), ("visit", "few")]), [2])
        self.assertEqual(exchangeable(house, 3, 0, [("visit", "few"), ("sort", 1), ("visit", "few")]), [1])

    def test_idle(self):
        for house, script in cases():
            standings = [standing_by(house, 2, 3, script[:number]) for number in range(len(script) + 1)]
            told = [at for at in range(len(script)) if standings[at] == standings[at + 1]]
            self.assertEqual(idle(house, 2, 3, script), told)

    def test_needless(self):
        for house, script in cases():
            goal = standing_by(house, 2, 3, script)
            others = [script[:at] + script[at + 1:] for at in range(len(script))]
            told = [at for at, other in enumerate(others)
                    if is_possible(house, other) and standing_by(house, 2, 3, other) == goal]
            self.assertEqual(needless(house, 2, 3, script), told)

    def test_exchangeable(self):
        for house, script in cases():
            goal = standing_by(house, 2, 3, script)
            others = [script[:at] + script[at:at + 2][::-1] + script[at + 2:] for at in range(len(script) - 1)]
            told = [at for at, other in enumerate(others)
                    if is_possible(house, other) and standing_by(house, 2, 3, other) == goal]
            self.assertEqual(exchangeable(house, 2, 3, script), told)

    def test_first_return(self):
        for house, script in cases():
            standings = [standing_by(house, 2, 3, script[:number]) for number in range(len(script) + 1)]
            pairs = [(one, other) for other in range(len(standings)) for one in range(other)
                     if standings[one] == standings[other]]
            self.assertEqual(first_return(house, 2, 3, script), pairs[0] if pairs else None)


class CommuteTest(unittest.TestCase):
    def test_examples(self):
        self.assertFalse(commute(small_house(), 3, 0, [], ("sort", 0), ("click", 0)))
        self.assertTrue(commute(house=small_house(), height=3, room=0, script=[], one=("sort", 0), other=("turn", 0)))

    def test_all_pairs(self):
        for chance in chances(12):
            house = random_house(chance)
            script = random_script(chance, house, 5)
            deeds = random_script(chance, house, 8)
            for one, other in itertools.product(deeds, repeat=2):
                told = standing_by(house, 2, 3, script + [one, other]) == standing_by(house, 2, 3, script + [other, one])
                self.assertIs(commute(house, 2, 3, script, one, other), told)

    def test_errors(self):
        house = wide_house()
        self.assertEqual(error_of(commute, house, 0, -1, [("sort", 9)], ("turn",), ()), (InvalidNumber, 0))
        self.assertEqual(error_of(commute, house, 1, -1, [("sort", 9)], ("turn",), ()), (InvalidNumber, -1))
        self.assertEqual(error_of(commute, house, 1, 0, [("sort", 9)], ("turn",), ()), (InvalidColumn, 9))
        self.assertEqual(error_of(commute, house, 1, 0, [], ("turn",), ()), (InvalidDeed, ("turn",)))
        self.assertEqual(error_of(commute, house, 1, 0, [], ("sort", 0), ("visit", "b")), (UnknownPlace, "b"))
        self.assertEqual(error_of(commute, house, 1, 0, [], ("sort", 1), ("visit", "few")), (InvalidColumn, 1))
        # In the first order all is right, in the other one the click is on a column that there is not.
        self.assertEqual(error_of(commute, house, 1, 0, [], ("visit", "few"), ("sort", 1)), (InvalidColumn, 1))
        self.assertEqual(error_of(commute, house, 1, 0, [("visit", "few")], ("sort", 1), ("visit", "all")),
                         (InvalidColumn, 1))


class ThroughTest(unittest.TestCase):
    def test_heads_of(self):
        self.assertEqual(heads_of(small_house(), 3, 0, [("sort", 0), ("visit", "few")]),
                         [("all", ([(0, 1)], True)), ("few", ([], False))])
        for house, script in cases(15, 25):
            trail, clicks = house.names[:1], {name: [] for name in house.names}
            for deed in script:
                if deed[0] == "visit":
                    trail = visit_by(trail, deed[1])
                elif deed[0] == "sort":
                    clicks[trail[-1]].append(deed[1])
            told = [(name, form_of(clicks[name])) for name in house.names]
            self.assertEqual(heads_of(house=house, height=2, room=3, script=script), told)

    def test_marks_through(self):
        self.assertEqual(marks_through(small_house(), 3, 0, [("sort", 0), ("click", 0)]),
                         [("all", [(0, False), (1, True)], 1), ("few", [(0, False)], None)])
        self.assertEqual(marks_through(small_house(), 3, 0, [("click", 2), ("range", -1)]),
                         [("all", [(0, False), (1, False)], None), ("few", [(0, False)], None)])
        for house, script in cases(10, 14):
            told = marks_through(house=house, height=2, room=3, script=script)
            self.assertEqual([name for name, _, _ in told], house.names)
            for name, effect, anchor in told:
                self.assertEqual(len(effect), len(house[name]))
                for marks in sublists(range(len(house[name]))):
                    model = WindowModel(house, 2, 3)
                    model.places[name].marks = list(marks)
                    place = model.do_all(script).places[name]
                    self.assertEqual((marks_by(effect, marks), anchor), (place.marks, place.anchor))

    def test_scroll_through(self):
        house = House([("all", Table(2, [[3, 1], [1, 2], [3, 2], [2, 1], [1, 1]]))])
        self.assertEqual(scroll_through(house, 3, [("sort", 0), ("turn", 2)]), [("all", (2, 2, 4))])
        self.assertEqual(scroll_through(small_house(), 1, []), [("all", (0, 0, 1)), ("few", (0, 0, 0))])
        for house, script in cases(20, 12):
            for height in (1, 2, 4):
                told = scroll_through(house=house, height=height, script=script)
                self.assertEqual([name for name, _ in told], house.names)
                for name, (shift, low, high) in told:
                    model = WindowModel(house, height, 0)
                    for scroll in range(room_by(model.places[name].view.lines(), height) + 1):
                        model = WindowModel(house, height, 0)
                        model.places[name].scroll = scroll
                        behind = model.do_all(script).places[name].scroll
                        self.assertEqual(max(low, min(high, scroll + shift)), behind)
                    self.assertLessEqual(low, high)
                    if low == high:
                        self.assertEqual(shift, 0)

    def test_the_ends_of_a_scroll(self):
        # low is where 0 is led, high where the greatest scroll is led.
        for chance in chances(10):
            house = House([("a", random_table(chance, 2, 6))])
            script = random_script(chance, house, 10, ["sort", "turn", "fold", "only"])
            _, (_, low, high) = scroll_through(house, 2, script)[0]
            ends = []
            for scroll in (0, 4):
                model = WindowModel(house, 2, 0)
                model.places["a"].scroll = scroll
                ends.append(model.do_all(script).places["a"].scroll)
            self.assertEqual([low, high], ends)


class ErrorsTest(unittest.TestCase):
    def calls(self):
        return [standing_after, idle, needless, exchangeable, first_return, heads_of, marks_through,
                lambda house, height, room, script: commute(house, height, room, script, ("turn", 0), ("turn", 0))]

    def test_numbers(self):
        for call in self.calls():
            self.assertEqual(error_of(call, small_house(), 0, -1, [("sort", 9)]), (InvalidNumber, 0))
            self.assertEqual(error_of(call, small_house(), -GREAT, -1, [("sort", 9)]), (InvalidNumber, -GREAT))
            self.assertEqual(error_of(call, small_house(), 1, -1, [("sort", 9)]), (InvalidNumber, -1))
        self.assertEqual(error_of(scroll_through, small_house(), 0, [("sort", 9)]), (InvalidNumber, 0))

    def test_deeds(self):
        calls = self.calls() + [lambda house, height, room, script: scroll_through(house, height, script)]
        for call in calls:
            for deed in NO_DEEDS:
                script = [("turn", 1), deed, ("sort", 5), ("visit", "z")]
                self.assertEqual(error_of(call, small_house(), 2, 1, script), (InvalidDeed, deed))
            for script, error in (([("sort", 1), ("visit", "z")], (InvalidColumn, 1)),
                                  ([("only", -1, 0, 0), ("turn",)], (InvalidColumn, -1)),
                                  ([("visit", "few"), ("visit", "Z"), ("sort", 1)], (UnknownPlace, "Z")),
                                  ([("visit", ""), ("turn",)], (UnknownPlace, "")),
                                  ([("visit", "few"), ("sort", 0), ("sort", 1)], (InvalidColumn, 1))):
                self.assertEqual(error_of(call, small_house(), 2, 1, script), error)


class LimitsTest(unittest.TestCase):
    def test_at_the_limits(self):
        chance = random.Random(3)
        house = great_house()
        script = random_script(chance, house, 60)
        self.assertEqual(standing_after(house, 9, GREAT, script), standing_by(house, 9, GREAT, script))
        self.assertLessEqual(set(idle(house, 9, 3, script)), set(range(60)))
        self.assertEqual(len(heads_of(house, 9, 3, script)), 6)
        self.assertEqual([len(effect) for _, effect, _ in marks_through(house, 9, 3, script)], [40] * 6)
        self.assertEqual(len(scroll_through(house, 9, script)), 6)
        one, other = random_deed(chance, house), random_deed(chance, house)
        both = [standing_by(house, 9, 3, script + told) for told in ([one, other], [other, one])]
        self.assertEqual(commute(house, 9, 3, script, one, other), both[0] == both[1])
        few = script[:12]
        for index in needless(house, 9, 3, few):
            self.assertEqual(standing_after(house, 9, 3, few[:index] + few[index + 1:]),
                             standing_after(house, 9, 3, few))
        self.assertLessEqual(set(exchangeable(house, 9, 3, few)), set(range(11)))
        self.assertEqual(first_return(house, 9, 3, [("turn", 1), ("turn", GREAT), ("turn", -GREAT)] * 4), (0, 3))
