"""[24], with [8], [10] and [21], and listwindow/scriptforms.py."""

import itertools
import random
import unittest

from listwindow.errors import (InvalidColumn, InvalidDeed, InvalidName, InvalidNumber, InvalidValue, UnknownPlace)
from listwindow.houses import House
from listwindow.scriptforms import (by_script, joined_scripts, repeated_script, script_for, script_form, scripts_alike,
                                    scripts_apart)
from listwindow.tables import Table
from tests.support import all_lists, all_sortings, click_all, error_of
from tests.test_houses import NO_NAMES
from tests.test_trails import PLACES, form_by, trails_of
from tests.window_model import WindowModel, visit_by

EMPTY = ([], (None, []))
DEEDS = [("only", 0, 1, 1), ("only", 0, None, 1), ("sort", 0), ("sort", 1), ("visit", "a"), ("visit", "b")]
FEW = [("only", 1, None, 0), ("sort", 0), ("visit", "a"), ("visit", "b")]


def bound(clicks):
    """True if the column that is clicked first is not clicked again behind a click on another one, as [8] tells it."""
    return bool(clicks) and not any(column == clicks[0] and set(clicks[:at]) - {column}
                                    for at, column in enumerate(clicks))


def parts_of(script):
    """For each place what is done there, None ahead of the first visit; and the visits."""
    place, done, visits = None, {}, []
    for deed in script:
        if deed[0] == "visit":
            place = deed[1]
            visits.append(place)
        else:
            done.setdefault(place, []).append(deed)
    return done, visits


def script_form_by(script):
    """The form of a script, as [24] tells it."""
    done, visits = parts_of(script)
    forms = []
    for place in sorted(done, key=lambda told: told or ""):
        clicks = [deed[1] for deed in done[place] if deed[0] == "sort"]
        last = {deed[1]: deed for deed in done[place] if deed[0] == "only"}
        forms.append((place, (click_all([], clicks), bound(clicks)), [last[column] for column in sorted(last)]))
    return forms, form_by(visits)


def random_script(chance, names, columns, length):
    deeds = []
    for _ in range(length):
        word = chance.choice(["sort", "sort", "only", "visit"])
        column = chance.randrange(columns)
        deeds.append(("sort", column) if word == "sort" else ("visit", chance.choice(names)) if word == "visit" else
                     ("only", column, chance.choice([None, -3, 4]), chance.choice([None, 7])))
    return deeds


def behind(script, trail, places):
    """The trail, the sortings and the filters that deeds make, one by one."""
    trail, places = list(trail), [(name, list(sorting), list(filters)) for name, sorting, filters in places]
    for deed in script:
        if deed[0] == "visit":
            trail = visit_by(trail, deed[1])
        for name, sorting, filters in places:
            if name == trail[-1] and deed[0] == "sort":
                sorting[:] = click_all(sorting, [deed[1]])
            if name == trail[-1] and deed[0] == "only":
                filters[deed[1]] = deed[2:]
    return trail, places


def some_places(names=("a", "b", "x")):
    """Places of windows with all sortings of two columns."""
    open_ones = [(None, None), (2, None)]
    for one, other in itertools.product(all_sortings(2)[::3], all_sortings(2)[::4]):
        yield [(name, sorting, list(open_ones)) for name, sorting in zip(names, (one, other, one))]


def all_effects(script):
    trails = [trail for trail in trails_of("abx") if trail]
    return str([behind(script, trail, places) for trail in trails for places in some_places()])


class FormTest(unittest.TestCase):
    def test_examples(self):
        script = [("sort", 0), ("visit", "few"), ("sort", 0), ("sort", 0)]
        form = ([(None, ([(0, 1)], True), []), ("few", ([(0, -1)], True), [])], ("few", [("few", "few")]))
        self.assertEqual((script_form(script), script_for(form)), (form, script))
        self.assertEqual((script_form(script=[]), script_for(form=EMPTY)), (EMPTY, []))

    def test_few_sorts_of_deeds(self):
        self.assertEqual(script_form([("visit", "b"), ("visit", "a")]), ([], ("b", [("a", "a"), ("b", "a")])))
        self.assertEqual(script_form([("only", 3, 2, 1), ("only", 0, 0, 0), ("only", 3, None, None)]),
                         ([(None, ([], False), [("only", 0, 0, 0), ("only", 3, None, None)])], (None, [])))

    def test_a_place_that_is_visited_again(self):
        script = [("sort", 0), ("visit", "b"), ("sort", 1), ("visit", "a"), ("sort", 0), ("visit", "b"), ("sort", 0)]
        self.assertEqual(script_form(script), (
            [(None, ([(0, 1)], True), []), ("a", ([(0, 1)], True), []), ("b", ([(0, 1), (1, 1)], True), [])],
            ("b", [("a", "b"), ("b", "b")])))
        self.assertEqual(script_for(script_form(script)), [
            ("sort", 0), ("visit", "b"), ("sort", 1), ("sort", 0), ("visit", "a"), ("sort", 0), ("visit", "b")])

    def test_all_scripts(self):
        for script in all_lists(DEEDS, 4):
            form = script_form(script)
            self.assertEqual(form, script_form_by(script))
            told = script_for(form)
            self.assertEqual(script_form_by(told), form)
            self.assertLessEqual(len(told), len(script))

    def test_alike_for_everything_exactly_if_the_forms_are_equal(self):
        made = {}
        for script in all_lists(FEW + [("sort", 1)], 3) + all_lists(FEW, 4)[-60:]:
            made.setdefault(all_effects(script), []).append(script_form(script))
        for forms in made.values():
            self.assertEqual(forms, forms[:1] * len(forms))
        self.assertEqual(len(made), len({str(forms[0]) for forms in made.values()}))

    def test_scripts_alike(self):
        self.assertTrue(scripts_alike([("sort", 0)] * 3, [("sort", 0)]))
        self.assertFalse(scripts_alike(one=[("sort", 0)], other=[("sort", 0), ("visit", "a")]))
        scripts = all_lists(DEEDS, 2)
        for one, other in itertools.product(scripts, repeat=2):
            self.assertEqual(scripts_alike(one, other), script_form_by(one) == script_form_by(other))

    def test_first_what_is_done_then_the_filters(self):
        script = [("only", 1, 1, None), ("sort", 1), ("only", 0, 3, 3), ("sort", 0), ("sort", 1)]
        self.assertEqual(script_for(script_form(script)), [("sort", 1), ("sort", 0), ("sort", 1), ("only", 0, 3, 3),
                                                           ("only", 1, 1, None)])


class JoinedTest(unittest.TestCase):
    def test_examples(self):
        self.assertEqual(joined_scripts(script_form([("sort", 0), ("visit", "few")]), script_form([("sort", 0)])),
                         ([(None, ([(0, 1)], True), []), ("few", ([(0, 1)], True), [])], ("few", [("few", "few")])))
        form = script_form([("sort", 0), ("visit", "a")])
        self.assertEqual((joined_scripts(one=EMPTY, other=form), joined_scripts(form, EMPTY)), (form, form))

    def test_all_scripts(self):
        scripts = all_lists(DEEDS, 3)
        for one, other in itertools.product(scripts[::5], scripts[::6]):
            self.assertEqual(joined_scripts(script_form_by(one), script_form_by(other)), script_form_by(one + other))

    def test_repeated(self):
        self.assertEqual(repeated_script(script_form([("sort", 0)]), 10 ** 30),
                         ([(None, ([(0, -1)], True), [])], (None, [])))
        self.assertEqual(repeated_script(form=EMPTY, times=7), EMPTY)
        for script in all_lists(DEEDS, 3)[::2] + all_lists(FEW, 4)[::3]:
            for times in range(7):
                self.assertEqual(repeated_script(script_form_by(script), times), script_form_by(script * times))
            for times in (10 ** 60 - 1, 10 ** 59):
                few = 8 if times % 2 == 0 else 7
                self.assertEqual(repeated_script(script_form_by(script), times), script_form_by(script * few))

    def test_at_the_limits(self):
        chance = random.Random(1)
        for names, columns in ((PLACES, 60), (PLACES[:2], 3), (["a"], 60)):
            one, other = random_script(chance, names, columns, 60), random_script(chance, names, columns, 60)
            self.assertEqual(script_form(one), script_form_by(one))
            self.assertEqual(script_form(script_for(script_form(one))), script_form_by(one))
            self.assertEqual(joined_scripts(script_form(one), script_form(other)), script_form_by(one + other))
            self.assertEqual(repeated_script(script_form(one), 10 ** 60 - 1), script_form_by(one * 5))
            self.assertIsNone(scripts_apart(one, one))

    def test_errors(self):
        no_form, nothing_done = ([], (None, [("a", "a")])), ([(None, ([], False), [])], (None, []))
        self.assertEqual(error_of(joined_scripts, no_form, nothing_done), (InvalidValue, no_form))
        self.assertEqual(error_of(joined_scripts, nothing_done, no_form), (InvalidValue, nothing_done))
        self.assertEqual(error_of(joined_scripts, EMPTY, no_form), (InvalidValue, no_form))
        self.assertEqual(error_of(repeated_script, no_form, -1), (InvalidValue, no_form))
        self.assertEqual(error_of(repeated_script, EMPTY, -1), (InvalidNumber, -1))
        self.assertIsNone(error_of(repeated_script, EMPTY, 0))


class ByScriptTest(unittest.TestCase):
    def test_example(self):
        form = script_form([("sort", 0), ("visit", "few"), ("sort", 0), ("sort", 0)])
        self.assertEqual(by_script(form, ["all"], [("all", [], [(None, None)]), ("few", [(0, 1)], [(None, None)])]),
                         (["all", "few"], [("all", [(0, 1)], [(None, None)]), ("few", [(0, 1)], [(None, None)])]))

    def test_all_scripts(self):
        trails = [trail for trail in trails_of("abx") if trail]
        places = list(some_places())
        for at, script in enumerate(all_lists(DEEDS, 4)[::3]):
            trail, there = trails[at % len(trails)], places[at % len(places)]
            self.assertEqual(by_script(form=script_form(script), trail=trail, places=there),
                             behind(script, trail, there))

    def test_the_place_where_it_begins_is_visited_again(self):
        script = [("sort", 0), ("only", 0, 1, 1), ("visit", "a"), ("sort", 0), ("only", 0, 2, 2)]
        places = [("a", [], [(None, None)]), ("b", [], [(None, None)])]
        for trail in (["a"], ["b"], ["b", "a"], ["a", "b"]):
            self.assertEqual(by_script(script_form(script), trail, places), behind(script, trail, places))

    def test_as_a_window(self):
        chance = random.Random(2)
        house = House([(name, Table(2, [[1, 2], [2, 1], [2, 2]])) for name in ("b", "a", "few")])
        for _ in range(40):
            script = random_script(chance, house.names, 2, 12)
            model = WindowModel(house, 2, 0)
            places = [(name, [], [(None, None)] * 2) for name in house.names]
            trail, told = by_script(script_form(script), ["b"], places)
            model.do_all(script)
            self.assertEqual(trail, model.trail)
            self.assertEqual(told, [(name, model.places[name].view.sorting, model.places[name].view.filters)
                                    for name in house.names])

    def test_errors(self):
        form = script_form([("visit", "c"), ("visit", "b"), ("visit", "d")])
        places = [(name, [], [(None, None)]) for name in ("a", "b", "c", "d", "e")]
        no_form = ([], ("a", []))
        self.assertEqual(error_of(by_script, no_form, ["a", "a"], places + places), (InvalidValue, no_form))
        self.assertEqual(error_of(by_script, form, ["x", "a", "e", "e", "a"], places + places), (UnknownPlace, "e"))
        self.assertEqual(error_of(by_script, form, ["x"], places[:3] + places[::-1]), (UnknownPlace, "c"))
        self.assertEqual(error_of(by_script, form, ["a", "y", "x"], places[:1]), (UnknownPlace, "y"))
        self.assertEqual(error_of(by_script, form, ["a"], places[:1]), (UnknownPlace, "b"))
        self.assertEqual(error_of(by_script, form, ["a"], places[:2] + places[3:]), (UnknownPlace, "c"))
        self.assertEqual(error_of(by_script, form, ["a"], places[:3]), (UnknownPlace, "d"))
        self.assertIsNone(error_of(by_script, form, ["a"], places))


class ApartTest(unittest.TestCase):
    def test_examples(self):
        self.assertEqual(scripts_apart([("sort", 0), ("visit", "few")], [("sort", 0), ("sort", 0), ("visit", "few")]),
                         ("sort", None, []))
        self.assertIsNone(scripts_apart(one=[("sort", 0)] * 3, other=[("sort", 0)]))
        self.assertEqual(scripts_apart([("visit", "a"), ("only", 3, 1, 1)], [("visit", "a")]), ("only", "a", 3))
        self.assertEqual(scripts_apart([("only", 2, 1, 1), ("only", 1, 0, 0)], [("only", 2, 1, 2), ("only", 1, 0, 0)]),
                         ("only", None, 2))
        # The first column, whether both have a deed on it or only the one or the other.
        for one, other, column in (([1, 3], [], 1), ([], [3, 2], 2), ([1], [0], 0), ([0], [1], 0), ([2], [1, 2], 1),
                                   ([4, 2, 1], [1], 2), ([0, 3], [0, 5], 3)):
            told = [[("only", at, 1, 1) for at in some] for some in (one, other)]
            self.assertEqual(scripts_apart(*told), ("only", None, column))
        self.assertEqual(scripts_apart([("only", 2, 1, 1), ("only", 1, 1, 1)], [("only", 2, 0, 1), ("only", 1, 1, 2)]),
                         ("only", None, 1))
        self.assertEqual(scripts_apart([("visit", "a")], [("visit", "b"), ("visit", "a")]), ("visit", []))
        # One form of the sorting, another one of the first click: they part where this column was sorted last.
        self.assertEqual(scripts_apart([("sort", 1), ("sort", 0), ("sort", 1)], [("sort", 0), ("sort", 1)]),
                         ("sort", None, [(0, 1)]))
        # None stands ahead of the names, these ascending, the clicks ahead of the filters.
        self.assertEqual(scripts_apart([("visit", "b"), ("only", 0, 1, 1), ("visit", "a"), ("only", 1, 1, 1)],
                                       [("visit", "b"), ("visit", "a"), ("sort", 0)]), ("sort", "a", []))

    def apart_by(self, one, other):
        (mine, visits), (others, told) = parts_of(one), parts_of(other)
        for place in [None] + sorted((set(mine) | set(others)) - {None}):
            deeds, more = mine.get(place, []), others.get(place, [])
            for sorting in all_sortings(2):
                if click_all(sorting, [deed[1] for deed in deeds if deed[0] == "sort"]) != \
                        click_all(sorting, [deed[1] for deed in more if deed[0] == "sort"]):
                    return "sort", place, sorting
            last, least = [{deed[1]: deed for deed in told if deed[0] == "only"} for told in (deeds, more)]
            for column in range(2):
                if last.get(column) != least.get(column):
                    return "only", place, column
        places = set(visits + told) | {[name for name in "abc" if name not in visits + told][0]}
        for trail in trails_of(places):
            if behind(one, trail, [])[0] != behind(other, trail, [])[0]:
                return "visit", trail
        return None

    def test_all_scripts(self):
        scripts = all_lists(DEEDS, 3)
        for one, other in itertools.product(scripts[::3], scripts[::4]):
            self.assertEqual(scripts_apart(one, other), self.apart_by(one, other))


class ErrorsTest(unittest.TestCase):
    def calls(self):
        return [script_form, lambda script: scripts_alike(script, [("turn", 1)]),
                lambda script: scripts_alike([], script), lambda script: scripts_apart(script, [("turn", 1)]),
                lambda script: scripts_apart([], script)]

    def test_scripts(self):
        words = [(), ("fold", 1), ("one", 1), ("all",), ("click", 0), ("range", 0), ("turn", 1), ("sort",), ("sort", 0, 0),
                 ("only", 0, 1), ("only", 0, 1, 1, 1), ("visit",), ("visit", "a", "b"), ("Sort", 0), ("", 0)]
        for call in self.calls():
            for deed in words:
                script = [("sort", 0), ("sort", -1), ("visit", "B"), deed, ("all", 0)]
                self.assertEqual(error_of(call, script), (InvalidDeed, deed))
            for name in NO_NAMES:
                script = [("sort", 0), ("visit", name), ("visit", "B"), ("sort", -1), ("only", -2, 0, 0)]
                self.assertEqual(error_of(call, script), (InvalidColumn, -1))
                self.assertEqual(error_of(call, script[:3]), (InvalidName, name))
            self.assertEqual(error_of(call, [("only", -2, 0, 0), ("sort", -1)]), (InvalidColumn, -2))

    def spoilt(self):
        """Forms with each part spoilt in its turn."""
        clicks, only, visits = ([(0, 1)], True), [("only", 0, 1, None)], ("a", [("a", "b"), ("b", "b")])
        for told in (([], True), ([(0, 1)], False), ([(0, 1), (0, -1)], True), ([(-1, 1)], True), ([(0, 2)], True)):
            yield [("a", told, only)], visits
        for told in ([("only", -1, 0, 0)], [("only", 1, 0, 0), ("only", 0, 0, 0)],
                     [("only", 1, 0, 0), ("only", 1, 0, 1)], [("only", 1, 0, 0), ("only", 1, 0, 0)]):
            yield [("a", clicks, told)], visits
            yield [(None, clicks, told)], visits
        for places in (["b", "a"], ["a", "a"], ["a", None], [None, None], ["c"], ["a", "b", "c"], [None, "b", "a"]):
            yield [(place, clicks, only) for place in places], visits
        yield [("a", ([], False), [])], visits
        yield [(None, ([], False), [])], visits
        yield [("a", clicks, only)], (None, [])
        for told in ((None, [("a", "a")]), ("a", []), ("c", [("a", "b"), ("b", "b")]), ("a", [("b", "b"), ("a", "b")]),
                     ("a", [("a", "b"), ("b", "a")]), ("a", [("a", "a"), ("b", "b")]), ("a", [("a", "c"), ("b", "b")]),
                     ("a", [("a", "a"), ("a", "a")]), ("a", [("a", "b"), ("b", "b"), ("b", "b")])):
            yield [(None, clicks, only)], told
        for name in NO_NAMES:
            yield [], (name, [(name, name)])
            yield [], ("a", [("a", "a"), (name, "a")])
            yield [(name, clicks, only)], visits

    def test_forms(self):
        calls = [script_for, lambda form: joined_scripts(form, ([], ("a", []))), lambda form: joined_scripts(EMPTY, form),
                 lambda form: repeated_script(form, -1), lambda form: by_script(form, ["a", "a"], [])]
        for form in self.spoilt():
            for call in calls:
                self.assertEqual(error_of(call, form), (InvalidValue, form))

    def test_what_is_a_form(self):
        # Of all tuples of some parts those are forms that some script has.
        forms = {str(script_form_by(script)) for script in all_lists(FEW, 5)}
        clicks = [([], False), ([], True), ([(0, 1)], True), ([(0, -1)], True), ([(0, 1)], False)]
        onlys = [[], [("only", 1, None, 0)]]
        places = [None, "a", "b"]
        visits = [(None, [])] + [(first, [("a", onward)]) for first in "ab" for onward in "ab"]
        visits += [(first, [("a", one), ("b", other)]) for first in "ab" for one in "ab" for other in "ab"]
        found = 0
        for number in range(3):
            for some in itertools.product(itertools.product(places, clicks, onlys), repeat=number):
                for visit in visits:
                    form = (list(some), visit)
                    told = error_of(script_for, form)
                    if told is None:
                        self.assertEqual(script_form_by(script_for(form)), form)
                        found += 1
                    else:
                        self.assertEqual(told, (InvalidValue, form))
                        self.assertNotIn(str(form), forms)
        self.assertGreater(found, 50)
