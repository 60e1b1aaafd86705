"""[2] and "The interface": names and arguments, nothing modified, nothing kept, each list new."""

import copy
import importlib
import inspect
import os
import re
import unittest

from listwindow import errors
from listwindow.errors import WindowError
from listwindow.houses import House
from listwindow.shapes import ranked
from listwindow.tables import Table
from listwindow.views import View
from listwindow.windows import Reader, Window
from tests.support import example_table, great_table, lists_in
from tests.test_examples import DOCUMENT, text_of

OPEN = (None, None)
FORM = ([(1, 1), (0, -1)], True)
DEEDS = [("fold", 3), ("sort", 1), ("fold", 2), ("only", 0, 2, None), ("one", 1), ("all",)]
PLAIN_DEEDS = [("fold", 2), ("sort", 1), ("fold", 5), ("only", 0, 1, None), ("all",), ("fold", 9)]
ORDER = [3, 0, 1, 2, 4]
THERE = [1, 4, 3, 0, 2]
CLICKS = [("click", 0), ("range", 2)]
EFFECT = [(0, False), (1, True), (2, False), (1, True), (1, True)]


def T():
    return example_table()


def V():
    return View(T(), [(0, 1)], [OPEN, OPEN], [[3, 1], [2]])


def H():
    return House([("all", T()), ("few", Table(1, [[7]]))])


def P():
    return View(T(), [(0, 1)], [OPEN, OPEN], [[1], []])


SCRIPT = [("sort", 0), ("click", 1), ("range", 2), ("fold", 1), ("only", 1, 1, 2), ("visit", "few"), ("turn", 1)]
PLAIN_SCRIPT = [("sort", 0), ("only", 0, 1, 3), ("visit", "few"), ("sort", 0), ("visit", "all"), ("only", 1, 1, None)]
VISIT_FORM = ("a", [("a", "a"), ("b", "a"), ("c", "a")])
NO_VISIT_FORM = ("a", [("a", "b"), ("b", "a")])
SCRIPT_FORM = ([(None, ([(0, 1)], True), [("only", 0, 1, 3)]), ("b", ([(1, -1)], True), [])], VISIT_FORM)
NO_SCRIPT_FORM = ([("b", ([(1, -1)], True), []), ("a", ([(0, 1)], True), [])], VISIT_FORM)
PLACES = [("b", [(0, 1)], [OPEN, (1, 2)]), ("c", [], [OPEN, OPEN]), ("a", [(1, 1)], [OPEN, OPEN])]
SMALL = Table(2, [[1, 1], [1, 2], [2, 1]])
LINES = [("head", 1, 2), ("row", 0), ("row", 1), ("head", 2, 1), ("row", 2)]
RECORD = [([], 0, LINES[:3]), ([1, 0], 9, LINES[2:])]
STANDING = (["all"], [("all", [(0, 1)], [OPEN, (1, 2)], [[1], []], [1, 4], 4, 1),
                      ("few", [], [OPEN], [[]], [], None, 0)], 1)


# For each function of the interface its parameters, and arguments with which it returns something.
CALLS = {
    "shapes": [
        ("ranks", "table column", (T(), 0)),
        ("ranked", "table", (T(),)),
        ("one_shape", "one other", (T(), ranked(T()))),
        ("tied_rows", "table columns", (T(), [0])),
        ("order_first_apart", "one other", (T(), T().with_cell(3, 0, 5))),
        ("alike_keys", "table", (T(),)),
        ("told_columns", "table columns", (T(), [1, 0])),
        ("fewest_telling", "table columns", (T(), [1, 0])),
    ],
    "patterns": [
        ("number_of_ranks", "rows", (4,)),
        ("nth_ranks", "rows index", (3, 5)),
        ("ranks_index", "ranks", ([1, 0, 2],)),
        ("first_copy", "table pattern", (T(), Table(2, [[2, 1], [1, 1]]))),
        ("count_copies", "table pattern", (T(), Table(2, [[2, 1], [1, 1]]))),
    ],
    "carried": [
        ("cell_on", "one other column value", (T(), ranked(T()), 0, 3)),
        ("filters_on", "one other filters", (T(), ranked(T()), [(2, None), (None, 1)])),
        ("folds_on", "one other folds", (T(), ranked(T()), [[3, 8], [1, 2]])),
        ("deeds_on", "one other sorting deeds", (T(), ranked(T()), [(0, 1)], DEEDS)),
    ],
    "sortings": [
        ("is_sorting", "width sorting", (2, [(0, 1)])),
        ("sortings", "width", (2,)),
        ("clicked", "width sorting clicks", (2, [(0, 1)], [1])),
        ("clicked", "width sorting clicks", (2, [(0, 1)], [])),
        ("order_of", "table sorting", (T(), [(0, 1)])),
        ("turned", "sorting", ([(0, 1), (1, -1)],)),
        ("without_ties", "table sorting", (T(), [(0, 1), (1, -1)])),
        ("place_in", "table sorting cells", (T(), [(0, 1)], [2, 9])),
        ("pairs_apart", "table one other", (T(), [], [(0, 1)])),
    ],
    "clickforms": [
        ("form_of", "clicks", ([0, 0, 1],)),
        ("is_form", "form", (FORM,)),
        ("formed", "form sorting", (FORM, [(0, 1), (2, 1)])),
        ("formed", "form sorting", (([], False), [(0, 1), (2, 1)])),
        ("joined", "one other", (FORM, FORM)),
        ("joined", "one other", (FORM, ([], False))),
        ("joined", "one other", (([], False), FORM)),
        ("clicks_for", "form", (FORM,)),
        ("alike", "one other", ([0, 1], [1])),
        ("first_apart", "one other", ([1, 0, 1], [0, 1])),
        ("number_of_forms", "width", (2,)),
        ("repeated", "form times", (FORM, 1)),
        ("repeated", "form times", (FORM, 5)),
        ("number_made", "width form", (2, FORM)),
        ("forms_between", "width sorting goal", (2, [(0, 1)], [(1, 1), (0, 1)])),
        ("forms_between", "width sorting goal", (2, [], [(1, 1), (0, 1)])),
    ],
    "sortways": [
        ("distance", "width sorting goal", (2, [(0, 1)], [(1, -1), (0, 1)])),
        ("first_way", "width sorting goal", (2, [(0, 1)], [(1, -1), (0, 1)])),
        ("farthest", "width sorting", (2, [])),
        ("orders", "table", (T(),)),
        ("sortings_showing", "table order", (T(), [1, 4, 3, 0, 2])),
        ("sortings_showing", "table order", (Table(2, []), [])),
        ("nearest", "table sorting order", (T(), [(0, -1)], [1, 4, 3, 0, 2])),
        ("order_distance", "table order goal", (T(), [0, 2, 3, 1, 4], [1, 4, 3, 0, 2])),
        ("first_beginning", "table rows", (T(), [0, 2])),
    ],
    "barring": [
        ("usable", "table order", (T(), [1, 4, 3, 0, 2])),
        ("barring", "table order", (T(), ORDER)),
        ("judge_barring", "table order spots", (T(), ORDER, [0, 1, 3])),
        ("least_barring", "table order", (T(), ORDER)),
    ],
    "filters": [
        ("open_filters", "width", (3,)),
        ("let_rows", "table filters", (T(), [(2, None), OPEN])),
        ("with_only", "filters deeds", ([OPEN, (1, 1)], [("only", 0, 1, 2)])),
        ("with_only", "filters deeds", ([OPEN, (1, 1)], [])),
        ("last_only", "deeds", ([("only", 1, 0, 5), ("only", 0, 1, 1)],)),
        ("barred_by", "table filters row", (T(), [(2, 2), (1, 1)], 1)),
        ("met", "one other", ([(1, None), OPEN], [(0, 4), (2, 3)])),
        ("part", "table filters", (T(), [(2, None), OPEN])),
        ("within", "one other", ([(1, 2)], [(None, 2)])),
        ("clash", "several", ([[(1, 3)], [(None, 0)]],)),
    ],
    "closures": [
        ("tight", "table rows", (T(), [3, 1])),
        ("closure", "table rows", (T(), [3, 1])),
        ("can_be_shown", "table rows", (T(), [2, 0])),
        ("first_guest", "table rows", (T(), [3, 1])),
        ("fewest_columns", "table rows", (T(), [2, 0])),
        ("changes", "table filters rows", (T(), [(1, 1), OPEN], [2, 0])),
        ("changes", "table filters rows", (T(), [(3, None), OPEN], [2, 0])),
        ("closed_sets", "table", (T(),)),
        ("least_rows", "table rows", (T(), [4, 3, 1])),
    ],
    "bounds": [
        ("widest", "table rows", (T(), [2, 0])),
        ("widest", "table rows", (Table(2, [[1, 1], [2, 2]]), [0])),
        ("fewest_bounds", "table rows", (T(), [1])),
        ("hosts", "table rows row", (T(), [3, 1, 0], 4)),
    ],
    "folding": [
        ("fold_form", "deeds", ([("fold", 2), ("all",), ("fold", 1)],)),
        ("folds_alike", "one other", ([("fold", 1)], [("all",)])),
        ("fewest_folds", "view rows", (V(), [3])),
        ("fewest_folds", "view rows", (V(), [3, 0, 2])),
        ("can_be_open", "view rows", (V(), [3])),
        ("open_states", "view", (V(),)),
    ],
    "groupforms": [
        ("group_form", "values deeds", ([1, 2, 3], [("fold", 9), ("one", 2), ("fold", 1)])),
        ("group_form", "values deeds", ([1, 2, 3], [])),
        ("formed_folds", "values form folded", ([1, 2, 3], (False, True, [3, 9]), [1, 9, 7])),
        ("formed_folds", "values form folded", ([1, 2, 3], (True, True, []), [1, 9, 7])),
        ("joined_groups", "values one other", ([1, 2, 3], (False, True, [3, 9]), (True, True, [3]))),
        ("joined_groups", "values one other", ([1, 2, 3], (False, True, [3, 9]), (True, True, []))),
        ("joined_groups", "values one other", ([1, 2, 3], (True, True, []), (False, True, [3, 9]))),
        ("group_deeds", "values form", ([1, 2, 3], (False, True, [3, 9]))),
        ("group_deeds", "values form", ([1, 2, 3], (True, True, []))),
    ],
    "opening": [
        ("fewest_to_folds", "view values", (V(), [3, 2])),
        ("fewest_to_open", "view rows", (V(), [0, 3, 4])),
        ("fewest_to_open", "view rows", (V(), [3])),
    ],
    "viewforms": [
        ("view_form", "deeds", (PLAIN_DEEDS,)),
        ("view_form", "deeds", ([],)),
        ("views_alike", "one other", (PLAIN_DEEDS, [("sort", 1)])),
        ("by_view_form", "form view", ((FORM, [("only", 0, 1, 2)], [(None, (False, [2])), (1, (True, [7]))]), V())),
        ("by_view_form", "form view", ((([], False), [], []), V())),
    ],
    "marks": [
        ("marked", "there marks anchor clicks", (THERE, [3], None, CLICKS)),
        ("marked", "there marks anchor clicks", (THERE, [3], 4, [])),
        ("positions", "there rows", (THERE, [0, 1, 3])),
        ("anchor_after", "there anchor clicks", (THERE, None, CLICKS)),
        ("borders", "there marks", (THERE, [0, 1, 3])),
        ("blocks", "there marks", (THERE, [0, 1, 3])),
        ("cost", "there marks", (THERE, [0, 1, 3])),
    ],
    "effects": [
        ("effect_of", "rows there anchor clicks", (5, THERE, None, CLICKS)),
        ("marks_by", "effect marks", (EFFECT, [1, 2])),
        ("then", "one other", (EFFECT, EFFECT)),
        ("sources_rise", "there effect", (THERE, EFFECT)),
        ("same_for", "rows there anchor one other", (5, THERE, 3, CLICKS, [])),
        ("first_marks_apart", "rows there anchor one other", (5, THERE, 1, [("range", 0)], [("range", 4)])),
        ("same_made", "effect marks other", (EFFECT, [1], [1, 3])),
        ("forgotten", "effect", (EFFECT,)),
    ],
    "markways": [
        ("cheapest_clicks", "there marks", (THERE, [0, 1, 3])),
        ("fewest", "there marks anchor goal", (THERE, [0], 3, [1, 2])),
        ("fewest", "there marks anchor goal", (THERE, [0], 3, [0])),
        ("meeting_clicks", "there marks other", (THERE, [0], [4])),
        ("meeting_clicks", "there marks other", (THERE, [0], [0])),
        ("cost_orders", "table marks", (T(), [0, 3])),
        ("cheapest_sorting", "table sorting marks", (T(), [(0, 1)], [0, 3])),
        ("fewest_anyhow", "table sorting marks", (T(), [(0, 1)], [0, 3])),
        ("one_stop", "table sorting goal marks", (T(), [(0, 1)], [(1, 1), (0, 1)], [0, 3])),
    ],
    "covers": [
        ("count_covers", "there marks", (THERE, [0, 1, 3])),
        ("cover_at", "there marks index", (THERE, [0, 1, 3], 1)),
        ("clicks_of_cover", "there marks cover", (THERE, [0, 1, 3], [(0, 1), (2,), (4,)])),
        ("is_cheapest", "there marks clicks", (THERE, [1, 3, 4], CLICKS)),
        ("makers", "there clicks", (THERE, CLICKS)),
        ("idle_clicks", "there clicks", (THERE, CLICKS + CLICKS)),
    ],
    "backwards": [
        ("effect_times", "effect times", (EFFECT, 1)),
        ("effect_times", "effect times", (EFFECT, 7)),
        ("comes_again", "effect", (EFFECT,)),
        ("marks_before", "effect marks", (EFFECT, [2])),
        ("ways_before", "effect marks", (EFFECT, [2])),
        ("pair_against", "effect marks", (EFFECT, [1])),
    ],
    "filterways": [
        ("cheapest_filters", "table sorting marks", (Table(1, [[1], [2]] * 4), [], [0, 2, 4, 6])),
        ("cheapest_filters", "table sorting marks", (T(), [(0, 1)], [])),
        ("by_filters", "view", (V(),)),
        ("by_filters", "view", (View(T(), [(0, 1)], [OPEN, OPEN], [[1, 2, 3], []]),)),
        ("stretch_of", "table sorting filters", (T(), [(0, 1)], [(1, 2), OPEN])),
        ("filter_for", "table sorting first last", (T(), [(0, 1)], 0, 2)),
        ("folds_for_marks", "view marks", (V(), [0, 1])),
    ],
    "rooms": [
        ("room_of", "lines height", (8, 5)),
        ("turned_by", "rooms scrolls turns", ((3, 4), (0, 1), [5, -2, 1])),
        ("lost", "rooms scrolls turns", ((3, 4), (0, 1), [9, -9])),
        ("clipped", "rooms scrolls", ((3, 4), (5, -1))),
        ("effect_on", "size turns", (5, [2, -1])),
        ("joined_effect", "size one other", (5, (1, 1, 4), (0, 2, 2))),
        ("repeated_effect", "size effect times", (5, (1, 1, 4), 3)),
        ("effect_through", "sizes turns", ([5, 4, 6], [1, 2])),
        ("turns_for", "size effect", (5, (0, 1, 4))),
        ("number_of_effects", "size", (5,)),
        ("fewest_turns", "rooms scrolls goal", ((3, 4), (0, 0), (0, 2))),
    ],
    "turnforms": [
        ("short_form", "turns", ([5, -2, 1],)),
        ("short_form", "turns", ([1, 2, 0, -1],)),
        ("is_short", "turns", ([5, -2, 1],)),
        ("turns_alike", "one other", ([5, -2, 1], [3])),
        ("room_apart", "one other", ([5, -2, 1], [3])),
        ("swing", "turns", ([2, -5, 3],)),
        ("rooms_for", "turns scroll", ([5, -2, 1], 1)),
    ],
    "seen": [
        ("seen_lines", "view height scroll", (P(), 3, 1)),
        ("seen_lines", "view height scroll", (P(), 3, 3)),
        ("scrolls_for", "view height line", (P(), 3, 2)),
        ("scrolls_showing", "view height row", (P(), 3, 3)),
        ("stops", "view height", (P(), 3)),
        ("told_scrolls", "view height seen", (P(), 2, [("head", 2, 1), ("row", 3)])),
        ("told_starts", "view height turns seen", (P(), 2, [1], [[("head", 1, 2), ("head", 2, 1)],
                                                                 [("head", 2, 1), ("row", 3)]])),
        ("fewest_scrolls", "view height rows", (P(), 2, [3, 0])),
        ("never_together", "view height rows", (P(), 2, [3, 0])),
        ("least_height", "view rows", (P(), [3, 0])),
        ("fewest_to_see", "view height rows", (P(), 4, [1, 3])),
    ],
    "trails": [
        ("trail_after", "trail visits", (["a", "b"], ["c", "b"])),
        ("trail_after", "trail visits", (["a", "b"], [])),
        ("visit_form", "visits", (["a", "b", "a"],)),
        ("by_form", "form trail", (VISIT_FORM, ["x", "b"])),
        ("by_form", "form trail", ((None, []), ["x", "b"])),
        ("visits_alike", "one other", (["a"], ["a", "b"])),
        ("trail_apart", "one other", (["a", "b"], ["b"])),
        ("trail_apart", "one other", (["a", "x", "a"], ["a"])),
        ("shortest_visits", "form", (VISIT_FORM,)),
        ("visits_between", "trail goal", (["a", "b"], ["a", "c"])),
        ("visits_between", "trail goal", (["a"], ["a", "c"])),
        ("visits_between", "trail goal", ([], ["a", "c"])),
        ("joined_visits", "one other", (VISIT_FORM, ("c", [("a", "a"), ("c", "a")]))),
        ("joined_visits", "one other", (VISIT_FORM, (None, []))),
        ("joined_visits", "one other", ((None, []), VISIT_FORM)),
        ("kept_trails", "form", (VISIT_FORM,)),
        ("kept_trails", "form", ((None, []),)),
        ("ways_home", "trail visits", (["a"], ["b", "a"])),
    ],
    "trailways": [
        ("leaves", "form", (VISIT_FORM,)),
        ("fewest_visits", "form", (VISIT_FORM,)),
        ("number_of_shortest", "form", (VISIT_FORM,)),
        ("visit_forms", "number", (3,)),
        ("visits_told", "trail trails", (["a"], [["a", "b"], ["a"]])),
        ("visits_of_lengths", "places lengths", (["c", "a"], [1, 2, 1])),
        ("visits_of_lengths", "places lengths", (["c", "a"], [])),
        ("number_before", "form places goal", (VISIT_FORM, ["x", "b"], ["x", "b", "a"])),
        ("tour", "trail places goal", (["a", "b"], ["x"], ["a", "b"])),
        ("tour", "trail places goal", ([], [], ["a", "b"])),
    ],
    "scripts": [
        ("standing_after", "house height room script", (H(), 3, 2, SCRIPT)),
        ("standing_after", "house height room script", (H(), 3, 2, [])),
        ("idle", "house height room script", (H(), 3, 2, SCRIPT)),
        ("needless", "house height room script", (H(), 3, 2, SCRIPT)),
        ("exchangeable", "house height room script", (H(), 3, 2, SCRIPT)),
        ("first_return", "house height room script", (H(), 3, 2, SCRIPT + [("turn", -1)])),
        ("commute", "house height room script one other", (H(), 3, 2, SCRIPT, ("turn", 1), ("turn", -1))),
        ("heads_of", "house height room script", (H(), 3, 2, SCRIPT)),
        ("marks_through", "house height room script", (H(), 3, 2, SCRIPT)),
        ("scroll_through", "house height script", (H(), 3, SCRIPT)),
    ],
    "scriptforms": [
        ("script_form", "script", (PLAIN_SCRIPT,)),
        ("script_form", "script", ([],)),
        ("scripts_alike", "one other", (PLAIN_SCRIPT, PLAIN_SCRIPT[1:])),
        ("script_for", "form", (SCRIPT_FORM,)),
        ("script_for", "form", (([], (None, [])),)),
        ("joined_scripts", "one other", (SCRIPT_FORM, SCRIPT_FORM)),
        ("joined_scripts", "one other", (SCRIPT_FORM, ([], (None, [])))),
        ("joined_scripts", "one other", (([], (None, [])), SCRIPT_FORM)),
        ("repeated_script", "form times", (SCRIPT_FORM, 0)),
        ("repeated_script", "form times", (SCRIPT_FORM, 1)),
        ("repeated_script", "form times", (SCRIPT_FORM, 10 ** 30)),
        ("by_script", "form trail places", (SCRIPT_FORM, ["b"], PLACES)),
        ("by_script", "form trail places", (([], (None, [])), ["b", "a"], PLACES)),
        ("scripts_apart", "one other", (PLAIN_SCRIPT, PLAIN_SCRIPT[1:])),
        ("scripts_apart", "one other", ([("visit", "a")], [("visit", "b")])),
    ],
    "wishes": [
        ("fewest_for_order", "house height room script order", (H(), 3, 2, [], [1, 4, 3, 0, 2])),
        ("fewest_for_rows", "house height room script rows", (H(), 3, 2, SCRIPT[:5], [2, 0])),
        ("plan", "house height room script order marks", (H(), 3, 2, [("sort", 0)], [1, 4, 3, 0, 2], [1, 3])),
        ("plan", "house height room script order marks", (H(), 3, 2, [], None, [1, 3])),
        ("judge_plan", "house height room script order marks told",
         (H(), 3, 2, [], [1, 4, 3, 0, 2], [], [("sort", 0)])),
        ("least_marked_lines", "house height room script marks", (H(), 3, 2, SCRIPT[:5], [1, 3])),
    ],
    "toldback": [
        ("sortings_for", "table lines", (SMALL, LINES)),
        ("standings_for", "table height seen", (SMALL, 2, [("head", 1, 2), ("head", 2, 1)])),
        ("folded_for", "table sorting lines", (SMALL, [(0, 1)], [("head", 1, 2)] + LINES[3:])),
        ("best_click", "table height scroll known", (SMALL, 9, 0, [[(0, 1)], [(0, -1)]])),
        ("clicks_to_one", "table known", (SMALL, [[(0, 1)], [(0, -1)]])),
        ("told_apart", "table known", (SMALL, [[], [(0, 1)]])),
    ],
    "records": [
        ("sortings_told", "table height record", (SMALL, 3, RECORD[:1])),
        ("first_lie", "table height record", (SMALL, 3, RECORD)),
    ],
    "standings": [
        ("comes_about", "house height room standing", (H(), 3, 2, STANDING)),
        ("script_to", "house height room standing", (H(), 3, 2, STANDING)),
    ],
    "texts": [
        ("show_table", "table", (T(),)),
        ("show_sorting", "sorting", ([(0, 1), (2, -1)],)),
        ("show_script", "script", (SCRIPT,)),
        ("show_lines", "lines", (LINES,)),
    ],
    "readings": [
        ("read_table", "text", ("2: 3,1 1,-2",)),
        ("read_sorting", "text", ("+0 -2",)),
        ("read_script", "text", ("sort 0; only 1 * -5; visit few",)),
        ("read_lines", "text", ("1 (2) #4",)),
    ],
}

# For each class of the interface the parameters of its constructor and of its methods, with arguments.
METHODS = [
    ("tables", "Table", "width rows", (2, [[3, 1], [1, 2], [3, 2], [2, 1], [1, 1]]), [
        ("cell", "row column", (0, 1)),
        ("column", "column", (1,)),
        ("with_cell", "row column value", (0, 1, 5)),
        ("with_row", "cells", ([4, 4],)),
        ("without_row", "row", (1,)),
        ("picked", "rows", ([2, 2, 0],)),
    ]),
    ("views", "View", "table sorting filters folds", (T(), [(0, 1)], [OPEN, OPEN], [[3, 1], [2]]), [
        ("shown", "", ()),
        ("open_rows", "", ()),
        ("groups", "", ()),
        ("lines", "", ()),
        ("done", "deeds", (DEEDS,)),
        ("done", "deeds", ([],)),
    ]),
    ("houses", "House", "places", ([("all", T()), ("few", Table(1, [[7]]))],), [
        ("with_table", "name table", ("few", SMALL)),
        ("with_table", "name table", ("more", SMALL)),
        ("without", "name", ("few",)),
        ("renamed", "name other", ("few", "fewer")),
    ]),
]

# Those of windows change them; what they return may be spoilt all the same.
WINDOW_METHODS = {"run": "script", "undo": "", "redo": "", "view": "", "seen": "", "log": "", "to": "number", "twin": "",
                  "__call__": "deed", "__len__": "", "__eq__": "other"}
WINDOW_PROPERTIES = ["here", "trail", "marks", "scrolls"]

PROPERTIES = {"Table": ["width", "rows"], "View": ["table", "sorting", "filters", "folds"], "House": ["names"]}

# Calls that are refused for a list, which the error then has.
REFUSED = [
    ("sortings", "clicked", (2, [(0, 1), (0, 1)], [])),
    ("sortings", "order_of", (T(), [(2, 1)])),
    ("sortings", "turned", ([(0, 0)],)),
    ("sortings", "without_ties", (T(), [(2, 1)])),
    ("sortings", "place_in", (T(), [(2, 1)], [1, 1])),
    ("sortings", "pairs_apart", (T(), [], [(2, 1)])),
    ("clickforms", "formed", (([(0, 1)], False), [])),
    ("clickforms", "formed", (FORM, [(0, 0)])),
    ("clickforms", "joined", (FORM, ([(0, 1)], False))),
    ("clickforms", "clicks_for", (([(0, 1)], False),)),
    ("clickforms", "repeated", (([], True), 3)),
    ("clickforms", "number_made", (2, ([], True))),
    ("clickforms", "forms_between", (2, [], [(2, 1)])),
    ("sortways", "distance", (2, [], [(2, 1)])),
    ("sortways", "first_way", (2, [(2, 1)], [])),
    ("sortways", "farthest", (2, [(2, 1)])),
    ("sortways", "sortings_showing", (T(), [0, 0])),
    ("sortways", "nearest", (T(), [], [0, 0])),
    ("sortways", "order_distance", (T(), [0, 0], [0, 0])),
    ("sortways", "first_beginning", (T(), [0, 0])),
    ("barring", "usable", (T(), [0, 0])),
    ("barring", "barring", (T(), [0, 0])),
    ("barring", "judge_barring", (T(), [0, 0], [])),
    ("barring", "least_barring", (T(), [0, 0])),
    ("closures", "tight", (T(), [0, 0])),
    ("closures", "tight", (T(), [])),
    ("closures", "closure", (T(), [0, 0])),
    ("closures", "changes", (T(), [OPEN, OPEN], [0, 0])),
    ("closures", "least_rows", (T(), [0, 0])),
    ("patterns", "ranks_index", ([0, 2],)),
    ("carried", "deeds_on", (T(), T(), [(2, 1)], [])),
    ("views", "View", (T(), [(2, 1)], [OPEN, OPEN], [[], []])),
    ("bounds", "widest", (T(), [0, 0])),
    ("bounds", "fewest_bounds", (T(), [])),
    ("bounds", "hosts", (T(), [0, 0], 1)),
    ("folding", "fewest_folds", (V(), [0, 0])),
    ("folding", "can_be_open", (V(), [0, 9])),
    ("groupforms", "formed_folds", ([1], (True, False, [2]), [2])),
    ("groupforms", "joined_groups", ([1], (True, True, []), (True, True, [2, 1]))),
    ("groupforms", "group_deeds", ([], (False, True, []))),
    ("opening", "fewest_to_open", (V(), [0, 0])),
    ("opening", "fewest_to_open", (V(), [9])),
    ("marks", "marked", ([0, 0], [], None, [])),
    ("marks", "marked", ([0, 1], [1, 0], None, [])),
    ("marks", "positions", ([0, 0], [])),
    ("marks", "anchor_after", ([0, 0], None, [])),
    ("marks", "borders", ([0, 1], [1, 0])),
    ("marks", "blocks", ([0, 1], [1, 0])),
    ("marks", "cost", ([0, 1], [2])),
    ("effects", "effect_of", (2, [2], None, [])),
    ("effects", "marks_by", (EFFECT, [5])),
    ("effects", "sources_rise", ([9], EFFECT)),
    ("effects", "same_for", (2, [0, 0], None, [], [])),
    ("effects", "first_marks_apart", (2, [2], None, [], [])),
    ("effects", "same_made", (EFFECT, [5], [])),
    ("effects", "same_made", (EFFECT, [], [5])),
    ("markways", "cheapest_clicks", (THERE, [9])),
    ("markways", "fewest", (THERE, [2, 1], None, [])),
    ("markways", "fewest", (THERE, [], None, [2, 1])),
    ("markways", "meeting_clicks", (THERE, [], [2, 1])),
    ("markways", "cost_orders", (T(), [9])),
    ("markways", "cheapest_sorting", (T(), [(2, 1)], [])),
    ("markways", "fewest_anyhow", (T(), [], [9])),
    ("markways", "one_stop", (T(), [], [(2, 1)], [])),
    ("covers", "count_covers", (THERE, [9])),
    ("covers", "cover_at", ([0, 0], [], 0)),
    ("covers", "clicks_of_cover", (THERE, [0], [(0,)])),
    ("covers", "is_cheapest", (THERE, [9], [])),
    ("covers", "makers", ([0, 0], [])),
    ("covers", "idle_clicks", ([0, 0], [])),
    ("backwards", "marks_before", (EFFECT, [5])),
    ("backwards", "ways_before", (EFFECT, [5])),
    ("backwards", "pair_against", (EFFECT, [5])),
    ("filterways", "cheapest_filters", (T(), [], [9])),
    ("filterways", "stretch_of", (T(), [(2, 1)], [])),
    ("filterways", "filter_for", (T(), [], 0, 0)),
    ("filterways", "folds_for_marks", (V(), [9])),
    ("seen", "fewest_scrolls", (P(), 3, [0, 0])),
    ("seen", "never_together", (P(), 3, [0, 0])),
    ("seen", "least_height", (P(), [0, 0])),
    ("seen", "fewest_to_see", (P(), 3, [9])),
    ("trails", "by_form", (NO_VISIT_FORM, [])),
    ("trails", "shortest_visits", (NO_VISIT_FORM,)),
    ("trails", "joined_visits", (NO_VISIT_FORM, VISIT_FORM)),
    ("trails", "joined_visits", (VISIT_FORM, NO_VISIT_FORM)),
    ("trails", "kept_trails", (NO_VISIT_FORM,)),
    ("trailways", "leaves", (NO_VISIT_FORM,)),
    ("trailways", "fewest_visits", (NO_VISIT_FORM,)),
    ("trailways", "number_of_shortest", (NO_VISIT_FORM,)),
    ("trailways", "number_before", (NO_VISIT_FORM, [], [])),
    ("scriptforms", "script_for", (NO_SCRIPT_FORM,)),
    ("scriptforms", "joined_scripts", (NO_SCRIPT_FORM, SCRIPT_FORM)),
    ("scriptforms", "joined_scripts", (SCRIPT_FORM, NO_SCRIPT_FORM)),
    ("scriptforms", "repeated_script", (NO_SCRIPT_FORM, 1)),
    ("scriptforms", "by_script", (NO_SCRIPT_FORM, ["b"], PLACES)),
    ("wishes", "fewest_for_order", (H(), 3, 2, SCRIPT, [0, 0])),
    ("wishes", "fewest_for_rows", (H(), 3, 2, SCRIPT, [0, 0])),
    ("wishes", "plan", (H(), 3, 2, [], [0, 0], [])),
    ("wishes", "plan", (H(), 3, 2, [("click", 1)], None, [0])),
    ("wishes", "plan", (H(), 3, 2, [], None, [9])),
    ("wishes", "judge_plan", (H(), 3, 2, [], [0, 0], [], [("sort", 0)])),
    ("wishes", "judge_plan", (H(), 3, 2, [], None, [9], [("sort", 0)])),
    ("wishes", "least_marked_lines", (H(), 3, 2, [], [9])),
    ("toldback", "folded_for", (SMALL, [], LINES)),
    ("toldback", "folded_for", (SMALL, [(2, 1)], LINES)),
]

# Calls that are refused for an entry of a list that is a list.
REFUSED_WITHIN = [
    ("toldback", "best_click", (SMALL, 9, 0, [[(0, 1)], [(2, 1)]])),
    ("toldback", "clicks_to_one", (SMALL, [[(0, 1)], [(2, 1)]])),
    ("toldback", "told_apart", (SMALL, [[(0, 1)], [(2, 1)]])),
]


def held(module, name):
    return getattr(importlib.import_module("listwindow." + module), name)


def spoil(value):
    """Changes each list in a value."""
    for told in lists_in(value):
        told.append("spoiled")


class InterfaceTest(unittest.TestCase):
    def test_functions_have_their_parameters_and_stand_in_their_files(self):
        for module, calls in CALLS.items():
            for name, parameters, _ in calls:
                function = held(module, name)
                self.assertEqual(function.__module__, "listwindow." + module)
                self.assertEqual(list(inspect.signature(function).parameters), parameters.split(), name)

    def test_classes_have_their_methods_themselves(self):
        for module, name, parameters, _, methods in METHODS:
            told = held(module, name)
            self.assertEqual(told.__module__, "listwindow." + module)
            self.assertEqual(list(inspect.signature(told).parameters), parameters.split())
            for method, names, _ in methods:
                self.assertEqual(list(inspect.signature(vars(told)[method]).parameters)[1:], names.split())
            for attribute in PROPERTIES[name]:
                self.assertIsInstance(vars(told)[attribute], property)
            for method in ("__init__", "__eq__", "__len__"):
                self.assertIn(method, vars(told))
        for told in (Table, House):
            self.assertIn("__add__", vars(told))
        self.assertIn("__getitem__", vars(House))

    def test_windows_have_their_methods_themselves(self):
        for told in (Window, Reader):
            self.assertEqual(told.__module__, "listwindow.windows")
            self.assertEqual(list(inspect.signature(told).parameters), ["house", "height", "room"])
            for method in ("__call__", "run", "__init__"):
                self.assertIn(method, vars(told))
        for method, names in WINDOW_METHODS.items():
            self.assertEqual(list(inspect.signature(vars(Window)[method]).parameters)[1:], names.split())
            self.assertEqual(list(inspect.signature(getattr(Reader, method)).parameters)[1:], names.split())
        for attribute in WINDOW_PROPERTIES:
            self.assertIsInstance(vars(Window)[attribute], property)

    @unittest.skipUnless(os.path.exists(DOCUMENT), "the document is not here")
    def test_all_names_of_the_document_are_here(self):
        known = {(module, name): parameters for module, calls in CALLS.items() for name, parameters, _ in calls}
        for module, name, parameters, _, methods in METHODS:
            known[(module, name)] = parameters
            known.update({(module, method): names for method, names, _ in methods})
        known.update({("windows", name): "house height room" for name in ("Window", "Reader")})
        known.update({("windows", method): names for method, names in WINDOW_METHODS.items()})
        # What a section tells of others: the call of a window, the length, a function of effects, the errors.
        others = [name for name, told in vars(errors).items() if isinstance(told, type)] + ["window", "len", "marks_by"]
        found = set()
        for part in re.split(r"\n(?=## listwindow/)", text_of(DOCUMENT))[1:]:
            module = re.match(r"## listwindow/(\w+)\.py", part)[1]
            for name, told in re.findall(r"`(\w+)\(([a-z_, ]*)\)`", re.sub(r"```.*?```", "", part, flags=re.S)):
                if (module, name) in known or name not in others:
                    self.assertEqual(known[(module, name)], " ".join(told.replace(",", " ").split()), (module, name))
                    found.add((module, name))
        functions = {(module, name) for module, calls in CALLS.items() for name, _, _ in calls}
        self.assertEqual(functions - found, set())
        self.assertEqual(len({module for module, _ in found}), 37)


class GeneralTest(unittest.TestCase):
    def assert_well_behaved(self, call, parameters, arguments):
        """Nothing modified, nothing kept, each list new, every argument by position and by name."""
        given = copy.deepcopy(arguments)
        result = call(*given)
        self.assertEqual(given, arguments)
        named = dict(zip(parameters.split(), copy.deepcopy(arguments)))
        expected = copy.deepcopy(result)
        self.assertEqual(call(**named), expected)
        told = lists_in(result)
        self.assertEqual(len({id(each) for each in told}), len(told))
        self.assertEqual({id(each) for each in told} & {id(each) for each in lists_in(given)}, set())
        kept = copy.deepcopy([each for each in given if isinstance(each, (Table, View, House))])
        spoil(result)
        spoil(given)
        self.assertEqual([each for each in given if isinstance(each, (Table, View, House))], kept)
        self.assertEqual(call(*copy.deepcopy(arguments)), expected)
        if not lists_in(result):
            self.assertEqual(result, expected)

    def test_functions(self):
        for module, calls in CALLS.items():
            for name, parameters, arguments in calls:
                with self.subTest(name=name, arguments=arguments):
                    self.assert_well_behaved(held(module, name), parameters, arguments)

    def test_functions_on_the_same_table_twice(self):
        # Spoiling what one call returned spoils no later call on the very same table.
        for module, calls in CALLS.items():
            for name, _, arguments in calls:
                given = copy.deepcopy(arguments)
                first = held(module, name)(*given)
                expected = copy.deepcopy(first)
                spoil(first)
                self.assertEqual(held(module, name)(*given), expected, name)

    def test_classes(self):
        for module, name, parameters, arguments, methods in METHODS:
            self.assert_well_behaved(held(module, name), parameters, arguments)
            for method, names, told in methods:
                made = held(module, name)(*copy.deepcopy(arguments))
                with self.subTest(method=method):
                    self.assert_well_behaved(getattr(made, method), names, told)
                    self.assertEqual(made, held(module, name)(*copy.deepcopy(arguments)))

    def test_properties(self):
        for made in (T(), V(), H(), great_table()):
            for name in PROPERTIES[made.__class__.__name__]:
                before = copy.deepcopy(made)
                value = getattr(made, name)
                told = lists_in(value)
                self.assertEqual(len({id(each) for each in told}), len(told))
                spoil(value)
                self.assertEqual(made, before)
                self.assertEqual(getattr(made, name), getattr(before, name))

    def test_equal_lists_that_are_passed_stay_apart(self):
        folded = [3, 1]
        view = View(T(), [(0, 1)], [OPEN, OPEN], [folded, folded])
        self.assertEqual(view.done([("fold", 1)]).folds, [[3], [1, 3]])
        cells = [1, 2]
        table = Table(2, [cells, cells])
        self.assertEqual(table.with_cell(0, 0, 9).rows, [[9, 2], [1, 2]])
        self.assertIsNot(table.rows[0], table.rows[1])

    def test_lists_in_errors_are_new(self):
        for module, name, arguments in REFUSED + REFUSED_WITHIN:
            given = copy.deepcopy(arguments)
            with self.subTest(name=name, arguments=arguments):
                with self.assertRaises(WindowError) as caught:
                    held(module, name)(*given)
                self.assertEqual(given, arguments)
                value = caught.exception.value
                entries = [entry for told in arguments if isinstance(told, list) for entry in told]
                self.assertIn(value, entries if (module, name, arguments) in REFUSED_WITHIN else arguments)
                told = lists_in(value)
                self.assertTrue(told)
                self.assertEqual(len({id(each) for each in told}), len(told))
                self.assertEqual({id(each) for each in told} & {id(each) for each in lists_in(given)}, set())
                spoil(value)
                self.assertEqual(given, arguments)
                with self.assertRaises(WindowError) as caught:
                    held(module, name)(*given)
                self.assertIn(caught.exception.value, entries + list(arguments))
