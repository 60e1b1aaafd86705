"""[3]: errors are checked in the order of the parameters: of two wrong arguments that of the first one is named."""

import copy
import itertools
import unittest

from listwindow.tables import Table
from tests.support import error_of
from tests.test_general import CALLS, EFFECT, NO_SCRIPT_FORM, NO_VISIT_FORM, OPEN, PLACES, held

GREAT = 10 ** 30
KEYS = [[(0, 2)], [(9, 1)], [(0, 1), (0, 1)]]
ROW_CLICKS = [[("none", 0)], [("click", 9)], [("click",)]]
# A column that there is not, and two words that the forms do not have; of the other one other values.
SCRIPTS = [[("none",)], [("sort", -1)], [("visit", "A")]], [[("nothing",)], [("sort", -2)], [("visit", "B")]]
PLAIN = [[("none",)], [("sort", -1)]], [[("nothing",)], [("sort", -2)]]
SMALLER = [Table(1, []), Table(2, [])]

# Wrong arguments by the names of parameters, by modules, and by functions, the later ahead of the earlier.
WRONG = {
    "width": [0, -1], "table": [], "column": [-1, 99], "columns": [[99], [0, -1]], "row": [-1, 99],
    "rows": [[0, 0], [99], [-1], [0, 99, 0]], "sorting": KEYS, "goal": KEYS, "order": [[0, 0], [9]],
    "filters": [[], [OPEN] * 3], "folds": [[]], "deeds": [[("none",)], [("sort", 9)], [("sort", -1)]],
    "clicks": [[9], [-1]], "cells": [[1], [1, 2, 3]], "index": [-1, 10 ** 9], "times": [-1, -GREAT],
    "marks": [[3, 1], [0, 0], [99], [-1]], "there": [[0, 0], [1, 2, 1]], "values": [[1, 1]], "folded": [[2, 2]],
    "height": [0, -3, -GREAT], "scroll": [-1, GREAT, -GREAT], "line": [-1, 99], "room": [-1, -GREAT],
    "seen": [[[]] * 5], "visits": [["A"], ["a", ""]], "trail": [["A"], ["a", "a"]], "trails": [[["A"]], [["a", "a"]]],
    "places": [["A"], ["a", "a"]], "script": [[("none",)], [("sort", 9)], [("visit", "zz")]], "known": [[[(9, 1)]]],
    "record": [[([9], 0, [])], [([0], -1, [])]], "size": [-1, -GREAT], "effect": [(5, 1, 9)], "lines": [-1],
    "scrolls": [(-1, 0), (0, 99)], "rooms": [(-1, 0), (0, -1)], "cover": [[(9,)]], "first": [-1, 99],
    "last": [-1, 99], "number": [-1],
}
BY_MODULE = {
    ("patterns", "rows"): [-1], ("patterns", "pattern"): SMALLER[:1], ("effects", "rows"): [-1],
    ("effects", "effect"): [], ("backwards", "effect"): [], ("carried", "other"): SMALLER,
    ("carried", "filters"): [[]], ("marks", "clicks"): ROW_CLICKS, ("effects", "clicks"): ROW_CLICKS,
    ("covers", "clicks"): ROW_CLICKS, ("clickforms", "form"): [([(0, 1)], False), ([], True)],
    ("filters", "deeds"): [[("only", 9, 1, 1)], [("only", -1, None, None)]], ("toldback", "lines"): [],
    ("trails", "form"): [NO_VISIT_FORM, ("A", [])], ("trailways", "form"): [NO_VISIT_FORM, ("A", [])],
    ("trails", "goal"): [["A"], ["a", "a"]], ("trailways", "goal"): [["A"], ["a", "a"]],
    ("scriptforms", "form"): [NO_SCRIPT_FORM], ("scriptforms", "trail"): [["zz"]],
    ("scriptforms", "places"): [[], PLACES[:1]], ("scriptforms", "script"): SCRIPTS[0],
    ("scriptforms", "one"): SCRIPTS[0], ("scriptforms", "other"): SCRIPTS[1],
    ("groupforms", "form"): [(True, False, [1]), (True, True, [2, 1])],
    ("rooms", "one"): [(5, 1, 9)], ("rooms", "other"): [(6, 1, 9)], ("rooms", "goal"): [(-2, 0), (0, 98)],
    ("texts", "lines"): [], ("trails", "one"): [["A"]], ("trails", "other"): [["B"]],
}
BY_FUNCTION = {
    ("sortways", "order_distance", "goal"): [[0, 0], [8]], ("sortings", "pairs_apart", "one"): KEYS,
    ("sortings", "pairs_apart", "other"): [[(9, -1)]], ("shapes", "order_first_apart", "other"): SMALLER,
    ("clickforms", "joined", "one"): [([(0, 1)], False)], ("clickforms", "joined", "other"): [([], True)],
    ("clickforms", "alike", "one"): [[-1]], ("clickforms", "alike", "other"): [[-2]],
    ("clickforms", "first_apart", "one"): [[-1]], ("clickforms", "first_apart", "other"): [[-2]],
    ("filters", "met", "other"): [[]], ("filters", "within", "other"): [[]],
    # With no filters other deeds are wrong.
    ("filters", "with_only", "filters"): [], ("filters", "last_only", "deeds"): [[("only", -1, None, None)]],
    ("folding", "folds_alike", "one"): [[("none",)]], ("folding", "folds_alike", "other"): [[("one", 1)]],
    ("groupforms", "joined_groups", "one"): [(True, False, [1])],
    ("groupforms", "joined_groups", "other"): [(True, True, [2, 1])],
    ("viewforms", "views_alike", "one"): PLAIN[0], ("viewforms", "views_alike", "other"): PLAIN[1],
    ("effects", "then", "other"): [EFFECT + EFFECT], ("effects", "same_for", "one"): ROW_CLICKS,
    ("effects", "same_for", "other"): [[("nothing", 0)], [("range", 8)]],
    ("effects", "first_marks_apart", "one"): ROW_CLICKS,
    ("effects", "first_marks_apart", "other"): [[("nothing", 0)], [("range", 8)]],
    ("effects", "same_made", "other"): [[5], [2, 1]], ("markways", "meeting_clicks", "other"): [[2, 1]],
    ("markways", "fewest", "goal"): [[4, 2]],
    ("trails", "joined_visits", "one"): [NO_VISIT_FORM, ("A", [])],
    ("trails", "joined_visits", "other"): [("b", [("b", "c"), ("c", "b")]), ("B", [])],
    ("scripts", "commute", "one"): [("none",), ("sort", 9)], ("scripts", "commute", "other"): [("no",), ("sort", 8)],
    ("scriptforms", "joined_scripts", "one"): [NO_SCRIPT_FORM],
    ("scriptforms", "joined_scripts", "other"): [([], ("A", []))],
}


def wrong_for(module, name, parameter):
    told = BY_MODULE.get((module, parameter), WRONG.get(parameter, []))
    return BY_FUNCTION.get((module, name, parameter), told)


def error_with(module, name, arguments, changed):
    given = [changed.get(at, argument) for at, argument in enumerate(arguments)]
    return error_of(held(module, name), *copy.deepcopy(given))


class ErrorOrderTest(unittest.TestCase):
    def test_of_two_wrong_arguments_the_first_one_is_named(self):
        tried = 0
        for module, calls in CALLS.items():
            for name, parameters, arguments in calls:
                wrong = []
                for at, parameter in enumerate(parameters.split()):
                    errors = [(at, value, error_with(module, name, arguments, {at: value}))
                              for value in wrong_for(module, name, parameter)]
                    wrong.append([told for told in errors if told[2] is not None])
                for ones, others in itertools.combinations(wrong, 2):
                    for (at, one, error), (behind, other, _) in itertools.product(ones, others):
                        both = {at: one, behind: other}
                        self.assertEqual(error_with(module, name, arguments, both), error, (module, name, one, other))
                        tried += 1
        self.assertGreater(tried, 1000)
