"""listwindow/readings.py, with [20] and [23]: what is shown is read back as it was, and the other way round."""

import itertools
import random
import unittest

from listwindow.errors import Unreadable
from listwindow.readings import read_lines, read_script, read_sorting, read_table
from listwindow.sortings import sortings
from listwindow.tables import Table
from listwindow.texts import show_lines, show_script, show_sorting, show_table
from tests.support import error_of, great_table, some_tables
from tests.test_houses import NO_NAMES
from tests.test_seen import some_views
from tests.window_model import WORDS, great_house, random_script, small_scripts

GREAT = 10 ** 60 - 1
CALLS = [(read_table, show_table), (read_sorting, show_sorting), (read_script, show_script), (read_lines, show_lines)]
NO_INTEGERS = ["-0", "00", "01", "-01", "+1", "--1", "-", "", "1.", "1_0", "0x1", "1e3", "a", "*", "1 ", " 1", "9" * 61,
               "-" + "9" * 61, "1" + "0" * 60, "9" * 5000]


class ReadTest(unittest.TestCase):
    def refuse(self, call, *texts):
        for text in texts:
            self.assertEqual(error_of(call, text), (Unreadable, text), (call, text))

    def test_tables(self):
        self.assertEqual(read_table("2: 3,1 1,-2"), Table(2, [[3, 1], [1, -2]]))
        self.assertEqual(read_table(text="1:"), Table(1, []))
        self.assertEqual(read_table("7:").width, 7)
        self.assertEqual(read_table("1: 0 -" + "9" * 60), Table(1, [[0], [-GREAT]]))
        # A width beyond the limits is no reason for an error.
        self.assertEqual(read_table("9" * 60 + ":"), Table(GREAT, []))
        self.assertEqual(read_table("1:" + " 1" * 3000), Table(1, [[1]] * 3000))

    def test_no_tables(self):
        self.refuse(read_table, "", ".", ":", " ", "0:", "-1:", "1", "2", "1: ", "1:  1", " 1:", "1 :", "1:1", "1: 1 ",
                    "1: 1  2", "2: 1", "2: 1,2,3", "2: 1,2 3", "1: 1,", "1: ,1", "2: 1,,2", "2: 1, 2", "2: 1 ,2", "2:: 1,2",
                    "1:.", "1: .", "1: *", "2: 1,*", "1; 1", "01:", "+1:", "1: 1:", "1:\n1", "-0:", "0: ")
        for told in NO_INTEGERS:
            self.refuse(read_table, f"1: {told}", f"2: 1,{told}", f"2: {told},1", f"1: 1 {told}", f"{told}:")

    def test_sortings(self):
        self.assertEqual(read_sorting("+0 -2"), [(0, 1), (2, -1)])
        self.assertEqual((read_sorting(text="."), read_sorting("-0")), ([], [(0, -1)]))
        self.assertEqual(read_sorting("+" + "9" * 60), [(GREAT, 1)])

    def test_no_sortings(self):
        self.refuse(read_sorting, "", " ", "..", ". .", "+0 .", "0", "+", "-", "+0 ", " +0", "+0  -1", "+0 -0", "+1 -2 +1",
                    "+0,-1", "+-1", "--1", "+ 0", "*", "+0;-1", "+0\n")
        for told in NO_INTEGERS:
            self.refuse(read_sorting, "+" + told, "-" + told, "+0 -" + told)

    def test_scripts(self):
        self.assertEqual(read_script("sort 0; only 1 * -5; visit few; all"),
                         [("sort", 0), ("only", 1, None, -5), ("visit", "few"), ("all",)])
        self.assertEqual((read_script(text="."), read_script("all"), read_script("only 0 * *")),
                         ([], [("all",)], [("only", 0, None, None)]))
        self.assertEqual(read_script("turn " + "9" * 60 + "; turn -" + "9" * 60 + "; turn 0"),
                         [("turn", GREAT), ("turn", -GREAT), ("turn", 0)])
        self.assertEqual(read_script("sort " + "9" * 60), [("sort", GREAT)])
        self.assertEqual(len(read_script("; ".join(["all"] * 1600))), 1600)
        # A word of a deed may be the name of a place.
        self.assertEqual(read_script("visit all; visit sort"), [("visit", "all"), ("visit", "sort")])

    def test_no_scripts(self):
        self.refuse(read_script, "", " ", "..", ". .", ".; all", "all; .", "all;", "all; ", "; all", "all ", " all", "all;all",
                    "all ; all", "all;  all", "all; ; all", "all,all", "All", "mark 1", "undo", "sort", "sort 0 1", "sort *",
                    "sort x", "sort  0", "only 0 1", "only 0 1 2 3", "only * 1 2", "only 0 ** 1", "fold", "fold *",
                    "fold 1 2", "one", "one *", "one 1 1", "all 1", "all *", "click", "click *", "click 1 1", "range",
                    "range *", "turn", "turn *", "turn 1 1", "visit", "visit *", "visit a b", "visit 1", "visit A",
                    "sort -1", "only -1 0 0", "click -1", "range -1", "sort -0", "turn -0", "*", "few", "visit few\n")
        for word in WORDS:
            for told in NO_INTEGERS:
                self.refuse(read_script, f"{word} {told} 0", f"{word} {told}" if word in ("sort", "turn", "fold") else "")
        for told in NO_INTEGERS:
            self.refuse(read_script, f"click {told}", f"range {told}", f"one {told}", f"only {told} 1 1")
            if told != "*":
                self.refuse(read_script, f"only 0 {told} 1", f"only 0 1 {told}", f"all; only 0 * {told}; all")
        for name in NO_NAMES:
            self.refuse(read_script, f"visit {name}", f"all; visit {name}; all")

    def test_lines(self):
        self.assertEqual(read_lines("7 (1) #0"), [("head", 7, 1), ("row", 0)])
        self.assertEqual((read_lines(text="."), read_lines("-3 (2)"), read_lines("#5")),
                         ([], [("head", -3, 2)], [("row", 5)]))
        # Any list of heads and rows, whether a view has it or not.
        self.assertEqual(read_lines("#5 #5 7 (9) 7 (9) 0 (1)"), [("row", 5)] * 2 + [("head", 7, 9)] * 2 + [("head", 0, 1)])
        self.assertEqual(read_lines("-" + "9" * 60 + " (" + "9" * 60 + ") #" + "9" * 60),
                         [("head", -GREAT, GREAT), ("row", GREAT)])

    def test_no_lines(self):
        self.refuse(read_lines, "", " ", "..", ". #0", "#0 .", "#", "# 0", "#0 ", " #0", "#0  #1", "#-1", "#0,#1", "#0#1", "7",
                    "7 #0", "(1)", "(1) 7", "7 (0)", "7 (-1)", "7 (1", "7 1)", "7 1", "7 ()", "7 ( 1)", "7(1)", "7  (1)", "7 ((1))",
                    "7 [1]", "7 (1) (1)", "#0 (1)", "* (1)", "7 (*)", "#*", "7 (", "7 )", "(1) #0", "+7 (1)", "#0 7", "#0\n")
        for told in NO_INTEGERS:
            self.refuse(read_lines, f"#{told}", f"{told} (1)", f"1 ({told})", f"#0 {told} (1)", f"1 (1) #{told}")


class BackTest(unittest.TestCase):
    def test_what_is_shown_is_read_back(self):
        for table in some_tables(1) + some_tables(2) + [great_table()] + [Table(5, [])]:
            self.assertEqual(read_table(show_table(table)), table)
        for width in (1, 2, 3):
            for sorting in sortings(width):
                self.assertEqual(read_sorting(show_sorting(sorting)), sorting)
        for script in small_scripts(3):
            self.assertEqual(read_script(show_script(script)), script)
        chance = random.Random(1)
        for _ in range(50):
            script = [deed for deed in random_script(chance, great_house(), 60)
                      if deed[0] not in ("click", "range") or deed[1] >= 0]
            self.assertEqual(read_script(show_script(script)), script)
        for view in some_views(30):
            self.assertEqual(read_lines(show_lines(view.lines())), view.lines())

    def test_all_short_texts(self):
        # Either a text is refused, or what is read is shown as the text was.
        few = {read_table: "012:, -", read_sorting: "+-012. ", read_script: "", read_lines: "#01() .-"}
        words = ["sort", "all", "only", "visit", "turn", "a", "0", "-1", "-0", "*", " ", "; ", ";", "."]
        found = {}
        for read, show in CALLS:
            parts, most = (words, 5) if read == read_script else (few[read], 6 if read == read_lines else 7)
            for number in range(1, most + 1):
                told = list(itertools.product(parts, repeat=number))
                for text in ["".join(some) for some in told[::max(1, len(told) // 30000)]]:
                    try:
                        made = read(text)
                    except Unreadable as error:
                        self.assertEqual(error.value, text)
                        continue
                    self.assertEqual(show(made), text)
                    found[read] = found.get(read, 0) + 1
        self.assertTrue(all(found[read] > 20 for read, _ in CALLS), found)

    def test_texts_with_one_character_changed(self):
        chance = random.Random(2)
        texts = [show_table(great_table(2, 3)), "2: 3,1 1,-2", "+0 -2 +1", "sort 0; only 1 * -5; visit few; all; turn -3",
                 "1 (2) #4 #5 -3 (1) #0"]
        characters = " ;:,.*#()+-0123456789abz"
        for (read, show), text in itertools.product(CALLS, texts):
            for _ in range(1500):
                at = chance.randrange(len(text) + 1)
                other = text[:at] + chance.choice(["", *characters]) + text[at + chance.randrange(2):]
                try:
                    self.assertEqual(show(read(other)), other)
                except Unreadable as error:
                    self.assertEqual(error.value, other)

    def test_at_the_limits(self):
        text = "5:" + " 1,-2,3,4,-5" * 600
        self.assertEqual(show_table(read_table(text)), text)
        for read, _ in CALLS:
            for text in ("9" * 8000, " " * 8000, "#" * 8000, "; " * 4000, "+0 " * 2666, "1:" + "," * 7998, "~" * 8000):
                self.assertEqual(error_of(read, text), (Unreadable, text))
        text = " ".join(["#1"] * 2600)
        self.assertEqual(show_lines(read_lines(text)), text)
