"""[2] and "The interface": names and arguments, nothing modified, nothing kept, each list new."""

import copy
import importlib
import inspect
import unittest

from listwindow.errors import WindowError
from listwindow.shapes import ranked
from listwindow.tables import Table
from listwindow.views import View
from tests.support import example_table, great_table, lists_in

OPEN = (None, None)
FORM = ([(1, 1), (0, -1)], True)
DEEDS = [("fold", 3), ("sort", 1), ("fold", 2), ("only", 0, 2, None), ("one", 1), ("all",)]
ORDER = [3, 0, 1, 2, 4]


def T():
    return example_table()


def V():
    return View(T(), [(0, 1)], [OPEN, OPEN], [[3, 1], [2]])


# For each function of the interface its parameters, and arguments with which it returns something.
CALLS = {
    "shapes": [
        ("ranks", "table column", (T(), 0)),
        ("ranked", "table", (T(),)),
        ("one_shape", "one other", (T(), ranked(T()))),
        ("tied_rows", "table columns", (T(), [0])),
        ("order_first_apart", "one other", (T(), T().with_cell(3, 0, 5))),
        ("alike_keys", "table", (T(),)),
        ("told_columns", "table columns", (T(), [1, 0])),
        ("fewest_telling", "table columns", (T(), [1, 0])),
    ],
    "patterns": [
        ("number_of_ranks", "rows", (4,)),
        ("nth_ranks", "rows index", (3, 5)),
        ("ranks_index", "ranks", ([1, 0, 2],)),
        ("first_copy", "table pattern", (T(), Table(2, [[2, 1], [1, 1]]))),
        ("count_copies", "table pattern", (T(), Table(2, [[2, 1], [1, 1]]))),
    ],
    "carried": [
        ("cell_on", "one other column value", (T(), ranked(T()), 0, 3)),
        ("filters_on", "one other filters", (T(), ranked(T()), [(2, None), (None, 1)])),
        ("folds_on", "one other folds", (T(), ranked(T()), [[3, 8], [1, 2]])),
        ("deeds_on", "one other sorting deeds", (T(), ranked(T()), [(0, 1)], DEEDS)),
    ],
    "sortings": [
        ("is_sorting", "width sorting", (2, [(0, 1)])),
        ("sortings", "width", (2,)),
        ("clicked", "width sorting clicks", (2, [(0, 1)], [1])),
        ("clicked", "width sorting clicks", (2, [(0, 1)], [])),
        ("order_of", "table sorting", (T(), [(0, 1)])),
        ("turned", "sorting", ([(0, 1), (1, -1)],)),
        ("without_ties", "table sorting", (T(), [(0, 1), (1, -1)])),
        ("place_in", "table sorting cells", (T(), [(0, 1)], [2, 9])),
        ("pairs_apart", "table one other", (T(), [], [(0, 1)])),
    ],
    "clickforms": [
        ("form_of", "clicks", ([0, 0, 1],)),
        ("is_form", "form", (FORM,)),
        ("formed", "form sorting", (FORM, [(0, 1), (2, 1)])),
        ("formed", "form sorting", (([], False), [(0, 1), (2, 1)])),
        ("joined", "one other", (FORM, FORM)),
        ("joined", "one other", (FORM, ([], False))),
        ("joined", "one other", (([], False), FORM)),
        ("clicks_for", "form", (FORM,)),
        ("alike", "one other", ([0, 1], [1])),
        ("first_apart", "one other", ([1, 0, 1], [0, 1])),
        ("number_of_forms", "width", (2,)),
        ("repeated", "form times", (FORM, 1)),
        ("repeated", "form times", (FORM, 5)),
        ("number_made", "width form", (2, FORM)),
        ("forms_between", "width sorting goal", (2, [(0, 1)], [(1, 1), (0, 1)])),
        ("forms_between", "width sorting goal", (2, [], [(1, 1), (0, 1)])),
    ],
    "sortways": [
        ("distance", "width sorting goal", (2, [(0, 1)], [(1, -1), (0, 1)])),
        ("first_way", "width sorting goal", (2, [(0, 1)], [(1, -1), (0, 1)])),
        ("farthest", "width sorting", (2, [])),
        ("orders", "table", (T(),)),
        ("sortings_showing", "table order", (T(), [1, 4, 3, 0, 2])),
        ("sortings_showing", "table order", (Table(2, []), [])),
        ("nearest", "table sorting order", (T(), [(0, -1)], [1, 4, 3, 0, 2])),
        ("order_distance", "table order goal", (T(), [0, 2, 3, 1, 4], [1, 4, 3, 0, 2])),
        ("first_beginning", "table rows", (T(), [0, 2])),
    ],
    "barring": [
        ("usable", "table order", (T(), [1, 4, 3, 0, 2])),
        ("barring", "table order", (T(), ORDER)),
        ("judge_barring", "table order spots", (T(), ORDER, [0, 1, 3])),
        ("least_barring", "table order", (T(), ORDER)),
    ],
    "filters": [
        ("open_filters", "width", (3,)),
        ("let_rows", "table filters", (T(), [(2, None), OPEN])),
        ("with_only", "filters deeds", ([OPEN, (1, 1)], [("only", 0, 1, 2)])),
        ("with_only", "filters deeds", ([OPEN, (1, 1)], [])),
        ("last_only", "deeds", ([("only", 1, 0, 5), ("only", 0, 1, 1)],)),
        ("barred_by", "table filters row", (T(), [(2, 2), (1, 1)], 1)),
        ("met", "one other", ([(1, None), OPEN], [(0, 4), (2, 3)])),
        ("part", "table filters", (T(), [(2, None), OPEN])),
        ("within", "one other", ([(1, 2)], [(None, 2)])),
        ("clash", "several", ([[(1, 3)], [(None, 0)]],)),
    ],
    "closures": [
        ("tight", "table rows", (T(), [3, 1])),
        ("closure", "table rows", (T(), [3, 1])),
        ("can_be_shown", "table rows", (T(), [2, 0])),
        ("first_guest", "table rows", (T(), [3, 1])),
        ("fewest_columns", "table rows", (T(), [2, 0])),
        ("changes", "table filters rows", (T(), [(1, 1), OPEN], [2, 0])),
        ("changes", "table filters rows", (T(), [(3, None), OPEN], [2, 0])),
        ("closed_sets", "table", (T(),)),
        ("least_rows", "table rows", (T(), [4, 3, 1])),
    ],
}

# For each class of the interface the parameters of its constructor and of its methods, with arguments.
METHODS = [
    ("tables", "Table", "width rows", (2, [[3, 1], [1, 2], [3, 2], [2, 1], [1, 1]]), [
        ("cell", "row column", (0, 1)),
        ("column", "column", (1,)),
        ("with_cell", "row column value", (0, 1, 5)),
        ("with_row", "cells", ([4, 4],)),
        ("without_row", "row", (1,)),
        ("picked", "rows", ([2, 2, 0],)),
    ]),
    ("views", "View", "table sorting filters folds", (T(), [(0, 1)], [OPEN, OPEN], [[3, 1], [2]]), [
        ("shown", "", ()),
        ("open_rows", "", ()),
        ("groups", "", ()),
        ("lines", "", ()),
        ("done", "deeds", (DEEDS,)),
        ("done", "deeds", ([],)),
    ]),
]

PROPERTIES = {"Table": ["width", "rows"], "View": ["table", "sorting", "filters", "folds"]}

# Calls that are refused for a list, which the error then has.
REFUSED = [
    ("sortings", "clicked", (2, [(0, 1), (0, 1)], [])),
    ("sortings", "order_of", (T(), [(2, 1)])),
    ("sortings", "turned", ([(0, 0)],)),
    ("sortings", "without_ties", (T(), [(2, 1)])),
    ("sortings", "place_in", (T(), [(2, 1)], [1, 1])),
    ("sortings", "pairs_apart", (T(), [], [(2, 1)])),
    ("clickforms", "formed", (([(0, 1)], False), [])),
    ("clickforms", "formed", (FORM, [(0, 0)])),
    ("clickforms", "joined", (FORM, ([(0, 1)], False))),
    ("clickforms", "clicks_for", (([(0, 1)], False),)),
    ("clickforms", "repeated", (([], True), 3)),
    ("clickforms", "number_made", (2, ([], True))),
    ("clickforms", "forms_between", (2, [], [(2, 1)])),
    ("sortways", "distance", (2, [], [(2, 1)])),
    ("sortways", "first_way", (2, [(2, 1)], [])),
    ("sortways", "farthest", (2, [(2, 1)])),
    ("sortways", "sortings_showing", (T(), [0, 0])),
    ("sortways", "nearest", (T(), [], [0, 0])),
    ("sortways", "order_distance", (T(), [0, 0], [0, 0])),
    ("sortways", "first_beginning", (T(), [0, 0])),
    ("barring", "usable", (T(), [0, 0])),
    ("barring", "barring", (T(), [0, 0])),
    ("barring", "judge_barring", (T(), [0, 0], [])),
    ("barring", "least_barring", (T(), [0, 0])),
    ("closures", "tight", (T(), [0, 0])),
    ("closures", "tight", (T(), [])),
    ("closures", "closure", (T(), [0, 0])),
    ("closures", "changes", (T(), [OPEN, OPEN], [0, 0])),
    ("closures", "least_rows", (T(), [0, 0])),
    ("patterns", "ranks_index", ([0, 2],)),
    ("carried", "deeds_on", (T(), T(), [(2, 1)], [])),
    ("views", "View", (T(), [(2, 1)], [OPEN, OPEN], [[], []])),
]


def held(module, name):
    return getattr(importlib.import_module("listwindow." + module), name)


def spoil(value):
    """Changes each list in a value."""
    for told in lists_in(value):
        told.append("spoiled")


class InterfaceTest(unittest.TestCase):
    def test_functions_have_their_parameters_and_stand_in_their_files(self):
        for module, calls in CALLS.items():
            for name, parameters, _ in calls:
                function = held(module, name)
                self.assertEqual(function.__module__, "listwindow." + module)
                self.assertEqual(list(inspect.signature(function).parameters), parameters.split(), name)

    def test_classes_have_their_methods_themselves(self):
        for module, name, parameters, _, methods in METHODS:
            told = held(module, name)
            self.assertEqual(told.__module__, "listwindow." + module)
            self.assertEqual(list(inspect.signature(told).parameters), parameters.split())
            for method, names, _ in methods:
                self.assertEqual(list(inspect.signature(vars(told)[method]).parameters)[1:], names.split())
            for attribute in PROPERTIES[name]:
                self.assertIsInstance(vars(told)[attribute], property)
            for method in ("__init__", "__eq__", "__len__"):
                self.assertIn(method, vars(told))
        self.assertIn("__add__", vars(Table))


class GeneralTest(unittest.TestCase):
    def assert_well_behaved(self, call, parameters, arguments):
        """Nothing modified, nothing kept, each list new, every argument by position and by name."""
        given = copy.deepcopy(arguments)
        result = call(*given)
        self.assertEqual(given, arguments)
        named = dict(zip(parameters.split(), copy.deepcopy(arguments)))
        expected = copy.deepcopy(result)
        self.assertEqual(call(**named), expected)
        told = lists_in(result)
        self.assertEqual(len({id(each) for each in told}), len(told))
        self.assertEqual({id(each) for each in told} & {id(each) for each in lists_in(given)}, set())
        tables = copy.deepcopy([each for each in given if isinstance(each, (Table, View))])
        spoil(result)
        spoil(given)
        self.assertEqual([each for each in given if isinstance(each, (Table, View))], tables)
        self.assertEqual(call(*copy.deepcopy(arguments)), expected)
        if not lists_in(result):
            self.assertEqual(result, expected)

    def test_functions(self):
        for module, calls in CALLS.items():
            for name, parameters, arguments in calls:
                with self.subTest(name=name, arguments=arguments):
                    self.assert_well_behaved(held(module, name), parameters, arguments)

    def test_functions_on_the_same_table_twice(self):
        # Spoiling what one call returned spoils no later call on the very same table.
        for module, calls in CALLS.items():
            for name, _, arguments in calls:
                given = copy.deepcopy(arguments)
                first = held(module, name)(*given)
                expected = copy.deepcopy(first)
                spoil(first)
                self.assertEqual(held(module, name)(*given), expected, name)

    def test_classes(self):
        for module, name, parameters, arguments, methods in METHODS:
            self.assert_well_behaved(held(module, name), parameters, arguments)
            for method, names, told in methods:
                made = held(module, name)(*copy.deepcopy(arguments))
                with self.subTest(method=method):
                    self.assert_well_behaved(getattr(made, method), names, told)
                    self.assertEqual(made, held(module, name)(*copy.deepcopy(arguments)))

    def test_properties(self):
        for made in (T(), V(), great_table()):
            for name in PROPERTIES[made.__class__.__name__]:
                before = copy.deepcopy(made)
                value = getattr(made, name)
                told = lists_in(value)
                self.assertEqual(len({id(each) for each in told}), len(told))
                spoil(value)
                self.assertEqual(made, before)
                self.assertEqual(getattr(made, name), getattr(before, name))

    def test_equal_lists_that_are_passed_stay_apart(self):
        folded = [3, 1]
        view = View(T(), [(0, 1)], [OPEN, OPEN], [folded, folded])
        self.assertEqual(view.done([("fold", 1)]).folds, [[3], [1, 3]])
        cells = [1, 2]
        table = Table(2, [cells, cells])
        self.assertEqual(table.with_cell(0, 0, 9).rows, [[9, 2], [1, 2]])
        self.assertIsNot(table.rows[0], table.rows[1])

    def test_lists_in_errors_are_new(self):
        for module, name, arguments in REFUSED:
            given = copy.deepcopy(arguments)
            with self.subTest(name=name, arguments=arguments):
                with self.assertRaises(WindowError) as caught:
                    held(module, name)(*given)
                self.assertEqual(given, arguments)
                value = caught.exception.value
                self.assertIn(value, arguments)
                told = lists_in(value)
                self.assertTrue(told)
                self.assertEqual({id(each) for each in told} & {id(each) for each in lists_in(given)}, set())
                spoil(value)
                self.assertEqual(given, arguments)
                with self.assertRaises(WindowError) as caught:
                    held(module, name)(*given)
                self.assertIn(caught.exception.value, arguments)
