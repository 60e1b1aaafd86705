"""listwindow/texts.py."""

import unittest

from listwindow.tables import Table
from listwindow.texts import show_lines, show_script, show_sorting, show_table
from listwindow.views import View
from tests.support import example_table, great_table
from tests.window_model import example_house, small_scripts

GREAT = 10 ** 60 - 1


class TextsTest(unittest.TestCase):
    def test_tables(self):
        self.assertEqual(show_table(Table(2, [[3, 1], [1, -2]])), "2: 3,1 1,-2")
        self.assertEqual(show_table(table=Table(1, [])), "1:")
        self.assertEqual(show_table(Table(1, [[0]])), "1: 0")
        self.assertEqual(show_table(example_table()), "2: 3,1 1,2 3,2 2,1 1,1")
        self.assertEqual(show_table(Table(3, [[-GREAT, 0, GREAT]])), "3: -" + "9" * 60 + ",0," + "9" * 60)
        text = show_table(great_table())
        self.assertEqual((text.count(" "), text.count(",")), (40, 160))

    def test_sortings(self):
        self.assertEqual(show_sorting([(0, 1), (2, -1)]), "+0 -2")
        self.assertEqual((show_sorting(sorting=[]), show_sorting([(0, -1)])), (".", "-0"))
        self.assertEqual(show_sorting([(column, -1) for column in range(60)]).split(" ")[-1], "-59")

    def test_scripts(self):
        self.assertEqual(show_script([("sort", 0), ("only", 1, None, -5), ("visit", "few"), ("all",)]),
                         "sort 0; only 1 * -5; visit few; all")
        self.assertEqual((show_script(script=[]), show_script([("all",)])), (".", "all"))
        self.assertEqual(show_script([("fold", -1), ("one", 0), ("click", 3), ("range", -2), ("turn", GREAT)]),
                         "fold -1; one 0; click 3; range -2; turn " + "9" * 60)
        self.assertEqual(show_script([("only", 0, None, None)]), "only 0 * *")

    def test_lines(self):
        self.assertEqual(show_lines([("head", 1, 2), ("row", 4)]), "1 (2) #4")
        self.assertEqual((show_lines(lines=[]), show_lines([("row", 0)]), show_lines([("head", -7, 1)])),
                         (".", "#0", "-7 (1)"))
        view = View(example_table(), [(0, 1)], [(None, None), (None, None)], [[1], []])
        self.assertEqual(show_lines(view.lines()), "1 (2) 2 (1) #3 3 (2) #0 #2")

    def test_unlike_scripts_have_unlike_texts(self):
        texts = [show_script(script) for script in small_scripts(2)]
        self.assertEqual(len(texts), len(set(texts)))
        self.assertEqual(show_table(example_house()["few"]), "1: 7")
