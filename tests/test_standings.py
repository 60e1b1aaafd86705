"""[22], [23] and listwindow/standings.py."""

import itertools
import random
import unittest

from listwindow.errors import InvalidNumber
from listwindow.houses import House
from listwindow.scripts import standing_after
from listwindow.standings import comes_about, script_to
from listwindow.tables import Table
from tests.support import all_lists, all_sortings, error_of, random_table, sublists
from tests.window_model import chances, is_possible, least_costs, random_house, random_script, standing_by

GREAT = 10 ** 30 - 1
MOST = 10 ** 60 - 1


def house_of():
    return House([("all", Table(1, [[2], [1]]))])


def two_places():
    return House([("all", Table(2, [[1, 1], [1, 2], [2, 1]])), ("few", Table(1, [[7], [3]]))])


def standing():
    """A standing of the house with two places that comes about."""
    return (["all", "few"], [
        ("all", [(1, -1), (0, 1)], [(None, None), (1, None)], [[1, 9], [-4]], [0, 2], 1, 2),
        ("few", [(0, -1)], [(None, None)], [[3]], [], 0, 1)], 4)


def with_place(at, part, value):
    """The standing with one part of a place changed."""
    trail, places, page = standing()
    place = list(places[at])
    place[part] = value
    return trail, places[:at] + [tuple(place)] + places[at + 1:], page


class StandingsTest(unittest.TestCase):
    def assert_comes_about(self, house, height, room, told):
        script = script_to(house, height, room, told)
        self.assertIsNotNone(script, told)
        self.assertTrue(comes_about(house, height, room, told))
        self.assertLessEqual(len(script), 60)
        self.assertEqual(standing_after(house, height, room, script), told)
        self.assertEqual(standing_by(house, height, room, script), told)
        for deed in script:
            numbers = [part for part in deed[1:] if part is not None and not isinstance(part, str)]
            most = GREAT if deed[0] == "turn" else MOST
            self.assertTrue(all(-most <= number <= most for number in numbers), deed)

    def assert_never(self, house, height, room, told):
        self.assertFalse(comes_about(house, height, room, told), told)
        self.assertIsNone(script_to(house, height, room, told), told)

    def test_examples(self):
        there = (["all"], [("all", [(0, -1)], [(None, None)], [[1]], [0], 0, 1)], 2)
        never = (["all"], [("all", [], [(None, None)], [[1]], [0], 0, 1)], 2)
        self.assert_comes_about(house_of(), 1, 3, there)
        self.assert_never(house_of(), 1, 3, never)
        self.assertTrue(comes_about(house=house_of(), height=1, room=3, standing=there))
        self.assertIsNone(script_to(house=house_of(), height=1, room=3, standing=never))
        self.assert_comes_about(two_places(), 2, 4, standing())

    def test_what_scripts_lead_to_comes_about(self):
        for chance in chances(60):
            names = ("all", "few")[:chance.randrange(1, 3)]
            house = random_house(chance, names, chance.randrange(1, 3))
            height, room = chance.randrange(1, 7), chance.choice([0, 1, 5, GREAT])
            for words in (None, ["sort", "fold", "turn", "visit"], ["click", "range", "visit"]):
                script = random_script(chance, house, 14, words)
                # Columns have at most 3 folded values here.
                told = standing_by(house, height, room, script)
                if all(len(folded) <= 3 for place in told[1] for folded in place[3]):
                    self.assert_comes_about(house, height, room, told)

    def test_all_short_scripts(self):
        house = House([("a", Table(1, [[1], [2]])), ("b", Table(1, [[3]]))])
        deeds = [("sort", 0), ("fold", 1), ("click", 0), ("click", 1), ("turn", 2), ("visit", "a"), ("visit", "b")]
        for script in all_lists(deeds, 4)[::2]:
            self.assert_comes_about(house, 1, 1, standing_by(house, 1, 1, script))

    def test_all_standings(self):
        # Of all standings of a small house just those that scripts lead to come about.
        house = House([("a", Table(1, [[1], [2]]))])
        reached, edge = {}, [()]
        deeds = [("sort", 0), ("fold", 1), ("only", 0, 2, None), ("only", 0, None, None), ("click", 0), ("click", 1),
                 ("turn", 1), ("turn", -1), ("turn", 9)]
        start = standing_by(house, 1, 1, [])
        reached[str(start)] = []
        edge = [[]]
        while edge:
            further = []
            for script in edge:
                for deed in deeds:
                    told = standing_by(house, 1, 1, script + [deed])
                    if str(told) not in reached:
                        reached[str(told)] = script + [deed]
                        further.append(script + [deed])
            edge = further
        tried = 0
        for sorting, bounds, folded, marks, anchor, scroll, page in itertools.product(
                all_sortings(1) + [[(0, 1), (0, 1)]], [(None, None), (2, None)], [[], [1]],
                sublists(range(2)) + [[1, 0]], [None, 0, 1, 2, -1], range(-1, 5), range(-1, 3)):
            told = (["a"], [("a", sorting, [bounds], [folded], marks, anchor, scroll)], page)
            self.assertEqual(comes_about(house, 1, 1, told), str(told) in reached, told)
            tried += comes_about(house, 1, 1, told)
        self.assertEqual(tried, len(reached))

    def test_a_place_that_was_left(self):
        trail, places, page = standing()
        self.assert_comes_about(two_places(), 2, 4, (["all"], places, page))
        first = standing_by(two_places(), 2, 4, [])
        self.assert_comes_about(two_places(), 2, 4, first)
        self.assertEqual(script_to(house_of(), 1, 0, standing_by(house_of(), 1, 0, [])), [])

    def test_all_combinations_of_places(self):
        house = House([("all", Table(1, [[2], [1]])), ("few", Table(1, [[7]]))])
        ones = [("all", [], [(None, None)], [[]], [], None, scroll) for scroll in (0, 1)]
        ones += [("all", [(0, 1)], [(1, 1)], [[1]], [1], 0, 0), ("all", [(0, -1)], [(None, None)], [[5]], [], 1, 3)]
        others = [("few", [], [(None, None)], [[]], [], None, 0), ("few", [(0, -1)], [(None, None)], [[]], [0], 0, 1)]
        for one, other, trail, page in itertools.product(ones, others, (["all"], ["all", "few"]), (0, 2)):
            self.assert_comes_about(house, 1, 2, (trail, [one, other], page))

    def test_trails_that_cannot_be(self):
        _, places, page = standing()
        for trail in ([], ["few"], ["few", "all"], ["all", "all"], ["all", "few", "all"], ["all", "few", "few"],
                      ["all", "x"], ["all", ""], ["x"], ["all", "few", "x"]):
            self.assert_never(two_places(), 2, 4, (trail, places, page))

    def test_places_that_cannot_be(self):
        trail, places, page = standing()
        for told in ([], places[:1], places[1:], places[::-1], places + places[1:], places + places[:1],
                     [places[0], ("x",) + places[1][1:]], [places[0], ("all",) + places[1][1:]]):
            self.assert_never(two_places(), 2, 4, (["all"], told, page))
            self.assert_never(two_places(), 2, 4, (trail, told, page))

    def test_parts_that_cannot_be(self):
        wrong = [
            (1, [[], [(0, 1)], [(1, 1)], [(0, 1), (0, 1)], [(1, -1), (2, 1)], [(-1, 1), (0, 1)], [(1, 0), (0, 1)],
                 [(1, -1), (0, 1), (1, 1)], [(1, 2), (0, 1)]]),
            (2, [[], [(None, None)], [(None, None)] * 3, [(None, None), (1, None), (0, 0)]]),
            (3, [[], [[1, 9]], [[1, 9], [-4], []], [[9, 1], [-4]], [[1, 1], [-4]], [[1, 9, 9], [-4]]]),
            (4, [[2, 0], [0, 0], [3], [-1], [0, 3], [-1, 0]]),
            (5, [None, 3, -1, MOST]),
            (6, [-1, 4, 5, GREAT, -GREAT]),
        ]
        for part, values in wrong:
            for value in values:
                self.assert_never(two_places(), 2, 4, with_place(0, part, value))
        for part, value in ((1, []), (1, [(1, 1)]), (2, []), (2, [(1, 1)] * 2), (3, [[], []]), (3, [[4, 3]]), (4, [2]),
                            (4, [1, 0]), (5, 2), (6, 2), (6, -1)):
            self.assert_never(two_places(), 2, 4, with_place(1, part, value))
        self.assert_comes_about(two_places(), 2, 4, with_place(1, 5, None))
        for scroll in range(4):
            self.assert_comes_about(two_places(), 2, 4, with_place(0, 6, scroll))

    def test_pages_that_cannot_be(self):
        trail, places, _ = standing()
        for page in (-1, 5, GREAT):
            self.assert_never(two_places(), 2, 4, (trail, places, page))
        for page in range(5):
            self.assert_comes_about(two_places(), 2, 4, (trail, places, page))

    def test_folded_values_need_a_column_that_was_the_first_key(self):
        house = House([("all", Table(2, [[1, 1], [2, 2]]))])
        for sorting in all_sortings(2):
            columns = [column for column, _ in sorting]
            for folds in ([[1], []], [[], [1]], [[1], [1, 7]], [[], []]):
                told = (["all"], [("all", sorting, [(None, None)] * 2, folds, [], None, 0)], 0)
                possible = all(column in columns for column in range(2) if folds[column])
                self.assertEqual(comes_about(house, 9, 0, told), possible)

    def test_no_marks_without_an_anchor(self):
        for marks, anchor in itertools.product(sublists(range(2)), (None, 0, 1)):
            told = (["all"], [("all", [], [(None, None)], [[]], marks, anchor, 0)], 0)
            self.assertEqual(comes_about(house_of(), 9, 0, told), anchor is not None or marks == [])
        none = House([("none", Table(1, []))])
        self.assert_never(none, 1, 0, (["none"], [("none", [], [(None, None)], [[]], [], 0, 0)], 0))
        self.assert_comes_about(none, 1, 0, (["none"], [("none", [(0, -1)], [(3, 2)], [[4]], [], None, 0)], 0))

    def test_at_the_limits(self):
        chance = random.Random(5)
        house = House([(name, random_table(chance, 2, 6, 6)) for name in ("abcdefgh", "zzzzzzzz")])
        for number in range(20):
            places = []
            for name in house.names:
                folds = [sorted(chance.sample([MOST, -MOST, 0, 1, 5], 3)) for _ in range(2)]
                sorting = chance.choice(all_sortings(2)[-8:])
                bounds = [(None, MOST), (chance.choice([None, -MOST]), None)]
                marks = sorted(chance.sample(range(6), chance.randrange(7)))
                places.append((name, sorting, bounds, folds, marks, chance.randrange(6), chance.randrange(3)))
            told = (house.names[:1 + number % 2], places, chance.choice([0, 1, GREAT]))
            self.assert_comes_about(house, 3, GREAT, told)
            self.assert_comes_about(house, GREAT, GREAT, (told[0], [place[:6] + (0,) for place in places], told[2]))

    def assert_farthest(self, house, height, told, farthest):
        """The page can be scrolled so far, and no farther, by a script of 60 deeds; by longer ones it can."""
        trail, places = told
        for page in (farthest, farthest - GREAT // 3):
            self.assert_comes_about(house, height, MOST, (trail, places, page))
        for page in (farthest + 1, 60 * GREAT + 1, 10 ** 40, MOST):
            self.assertIsNone(script_to(house, height, MOST, (trail, places, page)), told)
            self.assertTrue(comes_about(house, height, MOST, (trail, places, page)))
        self.assert_never(house, height, farthest - 1, (trail, places, farthest))

    def test_pages_beyond_one_turn(self):
        for page in (GREAT - 1, GREAT, GREAT + 1, 10 ** 31, 40 * GREAT + 7):
            for scroll in (0, 1):
                there = (["all"], [("all", [], [(None, None)], [[]], [], None, scroll)], page)
                self.assert_comes_about(house_of(), 1, MOST, there)
                self.assert_comes_about(house_of(), 1, page, there)
            trail, places, _ = standing()
            self.assert_comes_about(two_places(), 2, MOST, (trail, places, page))
            self.assert_comes_about(two_places(), 2, MOST, (["all"], places, page))

    def test_the_farthest_pages_of_one_place(self):
        rising = House([("all", Table(1, [[1], [2], [3], [4]]))])
        wavering = House([("all", Table(1, [[1], [2], [1], [2], [1], [2]]))])
        both = House([("all", Table(2, [[1, 5], [2, 6]]))])
        for house, height, place, farthest in (
                (house_of(), 1, ([], [(None, None)], [[]], [], None, 1), 60 * GREAT - 1),
                (house_of(), 1, ([], [(None, None)], [[]], [], None, 0), 59 * GREAT - 1),
                (house_of(), 2, ([], [(None, None)], [[]], [], None, 0), 60 * GREAT),
                # Filters, and folds, that leave no room on the way, or just as much as is wanted.
                (house_of(), 1, ([], [(3, None)], [[]], [], None, 0), 59 * GREAT),
                (house_of(), 1, ([(0, 1)], [(None, None)], [[1, 2]], [], None, 1), 57 * GREAT - 1),
                (house_of(), 1, ([(0, 1)], [(None, None)], [[1]], [], None, 1), 58 * GREAT - 1),
                (house_of(), 1, ([(0, 1)], [(None, None)], [[1]], [], None, 0), 57 * GREAT - 1),
                # One deed folds three values, and a range click marks two rows more.
                (rising, 9, ([(0, 1)], [(None, None)], [[1, 2, 3]], [], None, 0), 58 * GREAT),
                (rising, 9, ([(0, 1)], [(None, None)], [[1, 2, 7]], [], None, 0), 56 * GREAT),
                (rising, 9, ([(0, 1)], [(None, 3)], [[1, 2]], [], None, 0), 57 * GREAT),
                (rising, 9, ([], [(None, None)], [[]], [0, 1, 2], 0, 0), 58 * GREAT),
                (wavering, 9, ([], [(None, 1)], [[]], [0, 2, 4], 4, 0), 57 * GREAT),
                (wavering, 9, ([(0, 1)], [(None, None)], [[]], [0, 2, 4], 0, 0), 57 * GREAT),
                # Each column is that of the first key when its values, those that are no cells too, are folded.
                (both, 9, ([(0, 1), (1, -1)], [(None, None)] * 2, [[1, 7], [5, 8, 9]], [], None, 0), 52 * GREAT),
                (both, 9, ([(1, 1)], [(None, None)] * 2, [[], [7]], [], 1, 0), 56 * GREAT)):
            self.assert_farthest(house, height, (["all"], [("all",) + place]), farthest)

    def test_the_farthest_pages_with_other_filters_on_the_way(self):
        for cells, height, place, farthest in (
                # Filters that leave no room, and filters between which one deed folds three of six values.
                ([[7], [7]], 1, ([], [(None, 9)], [[]], [], None, 0), 58 * GREAT),
                ([[3], [0], [3], [0]], 1, ([(0, 1)], [(None, 9)], [[0, 3]], [], None, 0), 55 * GREAT),
                ([[0, 1], [2, 1], [2, 1], [1, 0]], 2, ([], [(None, 9), (0, 1)], [[], []], [], 1, 0), 55 * GREAT),
                ([[1], [2], [3], [4], [5], [6]], 20, ([(0, 1)], [(None, 9)], [[1, 2, 3]], [], None, 0), 56 * GREAT),
                # A room that is just as great as the scroll is on the way alone.
                ([[0], [3], [0], [3]], 2, ([(0, 1)], [(None, 9)], [[]], [0], 0, 1), 56 * GREAT - 1),
                # Range clicks among other rows, and in another order, than those at last.
                ([[0], [2], [0], [1]], 4, ([], [(1, 1)], [[]], [0, 2, 3], 2, 0), 56 * GREAT),
                ([[1], [1], [3], [0], [1], [3]], 5, ([(0, 1)], [(0, 3)], [[3]], [0, 1, 2, 4, 5], 1, 1), 54 * GREAT - 1),
                ([[0, 2], [0, 1], [2, 2], [2, 1]], 9,
                 ([(0, 1)], [(None, None), (1, None)], [[0, 2], []], [0, 2, 3], 0, 0), 53 * GREAT),
                ([[0, 0], [2, 0], [1, 1], [0, 0]], 5,
                 ([(0, 1), (1, -1)], [(None, 9), (None, None)], [[], []], [0, 2, 3], 0, 1), 54 * GREAT - 1),
                ([[1, 1], [2, 0], [2, 0], [2, 2]], 3,
                 ([(1, 1), (0, 1)], [(2, 2), (1, 2)], [[1, 2], [0, 1, 2]], [0, 1, 3], 1, 0), 49 * GREAT)):
            house = House([("all", Table(len(cells[0]), cells))])
            self.assert_farthest(house, height, (["all"], [("all",) + place]), farthest)

    def test_the_farthest_pages_of_two_places(self):
        house = House([("all", Table(1, [[2], [1]])), ("few", Table(1, [[7]]))])
        plain = {scroll: ("all", [], [(None, None)], [[]], [], None, scroll) for scroll in (0, 1)}
        few = ("few", [], [(None, None)], [[]], [], None, 0)
        many = ("few", [(0, 1)], [(None, None)], [[]], [0], 0, 1)
        for trail, places, farthest in (
                # At a place with a scroll of 0 the page is scrolled at best, if one goes there in any case.
                (["all"], [plain[0], few], 59 * GREAT - 1),
                (["all", "few"], [plain[0], few], 59 * GREAT),
                (["all"], [plain[1], few], 60 * GREAT - 1),
                (["all", "few"], [plain[1], few], 59 * GREAT - 1),
                (["all", "few"], [plain[1], many], 57 * GREAT - 2),
                (["all"], [plain[1], many], 56 * GREAT - 2),
                (["all"], [plain[0], many], 56 * GREAT - 1)):
            self.assert_farthest(house, 1, (trail, places), farthest)

    def test_the_farthest_pages_of_all_standings(self):
        chance = random.Random(3)
        bounds = [(None, None), (5, 4), (0, 0), (1, None)]
        deeds = [("sort", 0), ("all",)] + [(word, value) for word in ("fold", "one") for value in (0, 1, 2)]
        deeds += [("only", 0, low, high) for low, high in bounds]
        few = [("sort", 0), ("fold", 0), ("fold", 9), ("only", 0, 5, 4)]
        wide = [("sort", 1), ("only", 1, 0, 0), ("only", 1, None, None)]
        for house, height, told, most in (
                (House([("a", Table(1, [[2], [0], [1]]))]), 2, deeds, 8),
                (House([("a", Table(1, [[1], [0], [1]]))]), 1, deeds, 8),
                (House([("a", Table(2, [[0, 1], [0, 0]]))]), 2, deeds + wide, 7),
                (House([("a", Table(1, [[2], [1], [2], [0], [2]]))]), 9, deeds[:1] + deeds[-4:], 6),
                (House([("a", Table(1, [[0], [1]])), ("b", Table(1, [[0]]))]), 1, few, 7)):
            costs = least_costs(house, height, told, most)
            for trail, places in chance.sample(sorted(costs, key=str), 100):
                parts = [(name, *[list(part) for part in place[:2]], [list(folded) for folded in place[2]],
                          list(place[3]), *place[4:]) for name, place in zip(house.names, places)]
                self.assert_farthest(house, height, (list(trail), parts), 60 * GREAT - costs[trail, places])

    def test_somewhat_more_places(self):
        # A plain script is longer than 60 deeds here, though the page is near.
        house = House([(name, Table(2, [[1, 1], [2, 2], [3, 3]])) for name in ("a", "b", "c", "d", "e")])
        place = ([(0, -1), (1, -1)], [(1, 3), (1, 3)], [[1, 2], [1, 3]], [0, 1, 2], 0)
        for trail, scroll, page in itertools.product((["a"], ["a", "c"], house.names), (0, 2), (0, 1, 5)):
            told = (trail, [(name,) + place + (scroll,) for name in house.names], page)
            self.assert_comes_about(house, 2, 5, told)
        # One visits a place, goes back to the first one, and on to the last one.
        house = House([(name, Table(1, [])) for name in ("a", "b", "c")])
        places = [(name, [], [(None, None)], [[]], [], None, 0) for name in house.names]
        places[1] = ("b", [(0, 1)], [(None, None)], [[]], [], None, 0)
        self.assert_farthest(house, 1, (["a", "c"], places), 56 * GREAT)

    def test_errors(self):
        for call in (comes_about, script_to):
            self.assertEqual(error_of(call, house_of(), 0, -1, ([], [], 0)), (InvalidNumber, 0))
            self.assertEqual(error_of(call, house_of(), 1, -1, ([], [], 0)), (InvalidNumber, -1))
            self.assertIsNone(error_of(call, house_of(), 1, 0, ([], [], 0)))

    def test_scripts_are_possible(self):
        self.assertTrue(is_possible(two_places(), script_to(two_places(), 2, 4, standing())))
