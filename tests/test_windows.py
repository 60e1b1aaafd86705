"""[5], [13] to [19], [22], [23] and listwindow/windows.py."""

import random
import unittest

from listwindow.errors import (InvalidColumn, InvalidDeed, InvalidNumber, NothingToUndo, UnknownPlace)
from listwindow.houses import House
from listwindow.seen import seen_lines
from listwindow.tables import Table
from listwindow.views import View
from listwindow.windows import Reader, Window
from tests.support import equal_table, error_of, example_table, random_table
from tests.window_model import (WindowModel, chances, example_house, great_house, random_house, random_script, room_by,
                                some_deeds)

GREAT = 10 ** 30 - 1
MARKING = [("click", 0), ("range", 1), ("click", -1), ("range", 99), ("click",), ("range",), ("click", 1, 2)]
NO_DEEDS = [(), ("sort",), ("sort", 0, 1), ("only", 0, 1), ("only", 0, 1, 2, 3), ("fold",), ("fold", 1, 2), ("one",),
            ("one", 1, 2), ("all", 1), ("click",), ("click", 0, 0), ("range",), ("range", 0, 1), ("turn",),
            ("turn", 1, 1), ("visit",), ("visit", "few", "all"), ("mark", 0), ("Sort", 0), ("", 0), ("all ",), ("undo",)]


def window_of(height=3, room=2, kind=Window):
    return kind(example_house(), height, room)


def all_of(window):
    """All that a window tells: what refused calls, and what is spoilt, must not change."""
    return (window.here, window.trail, window.marks, window.scrolls, window.view(), window.seen(), window.log(),
            len(window))


def all_back_and_again(window):
    """What a window tells at all of its moments, which all are gone to; it is left as it was."""
    there = len(window)
    told = [all_of(window)]
    while error_of(window.undo) is None:
        told.append(all_of(window))
    while error_of(window.redo) is None:
        told.append(all_of(window))
    window.to(there)
    return told


class CallTest(unittest.TestCase):
    def assert_like(self, window, model):
        here = model.here()
        self.assertEqual((window.here, window.trail), (model.trail[-1], model.trail))
        self.assertEqual((window.marks, window.scrolls), (here.marks, (here.scroll, model.page)))
        self.assertEqual(window.seen(), model.seen())
        view = window.view()
        self.assertEqual((view.lines(), view.sorting, view.filters, view.folds),
                         (here.view.lines(), here.view.sorting, here.view.filters,
                          [sorted(folded) for folded in here.view.folds]))

    def test_example(self):
        window = window_of()
        self.assertEqual(window(("sort", 0)), [("head", 1, 2), ("row", 1), ("row", 4)])
        self.assertEqual(window(deed=("click", 1)), [("head", 1, 2), ("row", 1), ("row", 4)])
        self.assertEqual(window(("turn", 9)), [("head", 3, 2), ("row", 0), ("row", 2)])
        self.assertEqual((window.scrolls, window.marks), ((5, 2), [4]))
        self.assertEqual(window.run([("visit", "few"), ("visit", "all"), ("fold", 3)]),
                         [("head", 2, 1), ("row", 3), ("head", 3, 2)])
        self.assertEqual((window.trail, window.scrolls, len(window)), (["all"], (3, 2), 4))
        self.assertIsNone(window.undo())
        self.assertEqual((window.seen(), len(window)), ([("head", 3, 2), ("row", 0), ("row", 2)], 3))

    def test_at_first(self):
        window = Window(house=example_house(), height=2, room=0)
        self.assertEqual((window.here, window.trail, window.marks, window.scrolls), ("all", ["all"], [], (0, 0)))
        self.assertEqual(window.view(), View(example_table(), [], [(None, None)] * 2, [[], []]))
        self.assertEqual((window.seen(), window.log(), len(window)), ([("row", 0), ("row", 1)], [], 0))

    def test_a_place_without_rows(self):
        window = Window(House([("none", Table(2, []))]), 1, 3)
        for deed in [("sort", 0), ("fold", 1), ("one", 1), ("click", 0), ("range", 0), ("only", 1, 0, 0), ("all",)]:
            self.assertEqual(window(deed), [])
        self.assertEqual((window(("turn", 2)), window.scrolls), ([], (0, 2)))
        self.assertEqual((window.marks, len(window)), ([], 8))

    def test_one_line_high(self):
        window = Window(House([("a", equal_table(1, 3))]), 1, 0)
        window(("sort", 0))
        for _ in range(4):
            self.assertEqual(window(("turn", 1)), [("head", 7, 3)])
        self.assertEqual(window.scrolls, (3, 0))

    def test_the_scroll_is_clipped_as_lines_come_and_go(self):
        window = window_of(2, 9)
        window.run([("sort", 0), ("turn", 6)])
        self.assertEqual(window.scrolls, (6, 0))
        window(("one", 1))
        self.assertEqual(window.scrolls, (3, 0))
        window(("all",))
        self.assertEqual(window.scrolls, (3, 0))
        window(("only", 0, 9, None))
        self.assertEqual(window.scrolls, (0, 0))
        self.assertEqual(window(("only", 0, None, None)), [("head", 1, 2), ("row", 1)])

    def test_turns_go_on_into_the_page(self):
        window = window_of(2, 9)
        for turn, scrolls in ((4, (3, 1)), (1, (3, 2)), (-4, (0, 1)), (-9, (0, 0)), (GREAT, (3, 9)), (-2, (1, 9)),
                              (0, (1, 9)), (-GREAT, (0, 0))):
            window(("turn", turn))
            self.assertEqual(window.scrolls, scrolls)

    def test_the_page_is_one_for_all_places(self):
        window = window_of(2, 9)
        window.run([("turn", 5), ("visit", "few"), ("turn", -1)])
        self.assertEqual(window.scrolls, (0, 1))
        window(("visit", "all"))
        self.assertEqual(window.scrolls, (3, 1))

    def test_positions_that_there_are_not(self):
        window = window_of()
        window(("click", 2))
        for position in (5, -1, -5, 99, GREAT, -GREAT):
            for word in ("click", "range"):
                window((word, position))
        self.assertEqual((window.marks, len(window)), ([2], 13))
        window(("range", 4))
        self.assertEqual(window.marks, [2, 3, 4])
        # Rows that are folded away have no position.
        window.run([("sort", 0), ("one", 2), ("click", 1), ("range", 1)])
        self.assertEqual(window.marks, [2, 3, 4])
        window(("click", 0))
        self.assertEqual(window.marks, [2, 4])

    def test_all_short_scripts(self):
        for one in some_deeds():
            for other in some_deeds():
                for last in some_deeds()[::2]:
                    script = [one, other, ("visit", "all"), last]
                    if error_of(window_of(2).run, script) is None:
                        window, model = window_of(2), WindowModel(example_house(), 2, 2)
                        for deed in script:
                            model.do(deed)
                            self.assertEqual(window(deed), model.seen())
                            self.assert_like(window, model)

    def test_random_scripts(self):
        for chance in chances(40):
            house = random_house(chance)
            height, room = chance.randrange(1, 7), chance.choice([0, 1, 5])
            window, model = Window(house, height, room), WindowModel(house, height, room)
            for deed in random_script(chance, house, 40):
                model.do(deed)
                self.assertEqual(window(deed), model.seen())
                self.assert_like(window, model)

    def test_errors_of_the_class(self):
        for kind in (Window, Reader):
            for height in (0, -1, -GREAT):
                self.assertEqual(error_of(kind, example_house(), height, -1), (InvalidNumber, height))
            for room in (-1, -GREAT):
                self.assertEqual(error_of(kind, example_house(), 1, room), (InvalidNumber, room))
            self.assertIsNone(error_of(kind, example_house(), GREAT, GREAT))

    def test_errors_of_deeds(self):
        for deed in NO_DEEDS:
            for kind in (Window, Reader):
                window = window_of(kind=kind)
                self.assertEqual(error_of(window, deed), (InvalidDeed, deed))
                self.assertEqual(error_of(window.run, [("sort", 0), deed, ("visit", "b")]), (InvalidDeed, deed))
        for deed, error in ((("sort", 2), (InvalidColumn, 2)), (("sort", -1), (InvalidColumn, -1)),
                            (("only", 5, 1, 0), (InvalidColumn, 5)), (("only", -2, None, None), (InvalidColumn, -2)),
                            (("visit", "b"), (UnknownPlace, "b")), (("visit", ""), (UnknownPlace, "")),
                            (("visit", "All"), (UnknownPlace, "All")), (("visit", "a b"), (UnknownPlace, "a b"))):
            self.assertEqual(error_of(window_of(), deed), error)
        window = window_of()
        window(("visit", "few"))
        self.assertEqual(error_of(window, ("sort", 1)), (InvalidColumn, 1))
        self.assertEqual(error_of(window, ("only", 1, 0, 0)), (InvalidColumn, 1))


class RefusedTest(unittest.TestCase):
    def test_a_refused_call_changes_nothing(self):
        for kind in (Window, Reader):
            window = window_of(kind=kind)
            window.run([("sort", 0), ("turn", 2)])
            window(("visit", "few"))
            window(("turn", 1))
            window.undo()
            before, told = all_of(window), all_back_and_again(window)
            calls = [(window, ("sort", 7)), (window, ("visit", "x")), (window, ("sort",)), (window.to, 4),
                     (window.to, -1), (window.run, [("visit", "all"), ("sort", 1), ("sort", 2)]),
                     (window.run, [("mark", 1), ("sort", 0)]), (window.run, [("sort", 0), ("turn", 1), ("visit", "")])]
            for call, argument in calls:
                self.assertIsNotNone(error_of(call, argument))
                self.assertEqual(all_of(window), before)
                self.assertEqual(all_back_and_again(window), told)
            # What was taken back can still be done again, and good calls answer as before.
            window.redo()
            self.assertEqual(window.scrolls, (0, 1))
            self.assertEqual(window(("visit", "all")), window.seen())

    def test_the_first_a_middle_and_the_last_place(self):
        good = [("sort", 0), ("visit", "few"), ("turn", 1), ("visit", "all")]
        for at in range(5):
            for deed, error in ((("sort", 9), (InvalidColumn, 9)), (("visit", "z"), (UnknownPlace, "z")),
                                (("turn",), (InvalidDeed, ("turn",)))):
                window = window_of()
                self.assertEqual(error_of(window.run, good[:at] + [deed] + good[at:]), error)
                self.assertEqual((window == window_of(), len(window), window.log()), (True, 0, []))
        # Each deed is checked in its turn: the first wrong one raises, whichever kind it is of.
        self.assertEqual(error_of(window_of().run, [("visit", "few"), ("sort", 1), ("turn",)]), (InvalidColumn, 1))
        self.assertEqual(error_of(window_of().run, [("sort", 1), ("turn",), ("sort", 2)]), (InvalidDeed, ("turn",)))


class UndoTest(unittest.TestCase):
    def test_both_ends(self):
        window = window_of()
        self.assertEqual(error_of(window.undo), (NothingToUndo, 0))
        self.assertEqual(error_of(window.redo), (NothingToUndo, 0))
        window(("sort", 0))
        self.assertEqual(error_of(window.redo), (NothingToUndo, 0))
        self.assertIsNone(window.undo())
        self.assertEqual(error_of(window.undo), (NothingToUndo, 0))
        self.assertIsNone(window.redo())
        self.assertEqual(error_of(window.redo), (NothingToUndo, 0))
        self.assertEqual(len(window), 1)

    def test_redo_behind_a_new_deed(self):
        window = window_of()
        window.run([("sort", 0)])
        window(("sort", 1))
        window.undo()
        window(("turn", 0))
        self.assertEqual(error_of(window.redo), (NothingToUndo, 0))
        self.assertEqual(window.log(), [("sort", 0), ("turn", 0)])

    def test_deeds_that_change_nothing(self):
        window = window_of()
        for deed in (("visit", "all"), ("turn", 0), ("click", 99), ("fold", 1)):
            window(deed)
        window.run([])
        self.assertEqual((len(window), window == window_of()), (5, True))
        for number in (4, 3, 2, 1, 0):
            window.undo()
            self.assertEqual(len(window), number)

    def test_a_script_is_one_deed(self):
        window = window_of()
        window.run(script=[("sort", 0), ("fold", 1), ("visit", "few")])
        self.assertEqual((len(window), window.log()), (1, [("sort", 0), ("fold", 1), ("visit", "few")]))
        window.undo()
        self.assertEqual((len(window), window.log(), window.trail), (0, [], ["all"]))
        window.redo()
        self.assertEqual((window.trail, len(window)), (["all", "few"], 1))
        self.assertEqual(window.run([]), window.seen())

    def test_all_is_taken_back_and_done_again(self):
        for chance in chances(20):
            house = random_house(chance)
            window = Window(house, 3, 4)
            told, deeds = [all_of(window)], []
            for _ in range(12):
                script = random_script(chance, house, chance.randrange(4))
                deeds += script
                if len(script) == 1:
                    window(script[0])
                else:
                    window.run(script)
                told.append(all_of(window))
                self.assertEqual(window.log(), deeds)
            for number in range(12, 0, -1):
                window.undo()
                self.assertEqual(all_of(window), told[number - 1])
            for number in range(12):
                window.redo()
                self.assertEqual(all_of(window), told[number + 1])
            for number in [chance.randrange(13) for _ in range(20)]:
                self.assertEqual(window.to(number), told[number][5])
                self.assertEqual(all_of(window), told[number])

    def test_to(self):
        window = window_of()
        self.assertEqual(window.to(0), [("row", 0), ("row", 1), ("row", 2)])
        self.assertEqual(error_of(window.to, 1), (InvalidNumber, 1))
        for deed in (("sort", 0), ("turn", 3), ("turn", 1)):
            window(deed)
        window.undo()
        self.assertEqual((window.to(number=3), window.scrolls), (window.seen(), (4, 0)))
        for number in (4, -1, GREAT, -GREAT):
            self.assertEqual(error_of(window.to, number), (InvalidNumber, number))
        window.to(1)
        self.assertEqual((len(window), window.scrolls, window.log()), (1, (0, 0), [("sort", 0)]))
        self.assertEqual(error_of(window.to, 4), (InvalidNumber, 4))
        window.to(3)
        self.assertEqual(window.scrolls, (4, 0))


class TwinTest(unittest.TestCase):
    def test_twins_go_their_own_way(self):
        for kind in (Window, Reader):
            window = window_of(kind=kind)
            window.run([("sort", 0), ("turn", 2)])
            window(("visit", "few"))
            window(("turn", 9))
            window.undo()
            twin = window.twin()
            self.assertIs(twin.__class__, kind)
            self.assertIsNot(twin, window)
            self.assertEqual(twin, window)
            self.assertEqual(all_back_and_again(twin), all_back_and_again(window))
            before = all_back_and_again(window)
            twin.redo()
            self.assertFalse(twin == window)
            twin(("visit", "all"))
            twin(("sort", 1))
            self.assertEqual(all_back_and_again(window), before)
            other = window.twin()
            window.to(0)
            window(("sort", 1))
            self.assertEqual(all_back_and_again(other), before)
            self.assertEqual(len(other), 2)

    def test_twin_of_a_new_window(self):
        window = window_of()
        twin = window.twin()
        twin(("sort", 0))
        self.assertEqual((len(twin), len(window), twin == window), (1, 0, False))


class EqualityTest(unittest.TestCase):
    def test_equal(self):
        one, other = window_of(), window_of()
        self.assertTrue(one == other)
        one(("sort", 0))
        self.assertFalse(one == other)
        self.assertTrue(one != other)
        other.run([("sort", 0), ("visit", "few"), ("visit", "all")])
        # The standings are equal, not what was done.
        self.assertTrue(one == other)
        self.assertFalse(one != other)
        one.undo()
        self.assertTrue(one == window_of())

    def test_each_part_of_a_standing_counts(self):
        behind = [[("sort", 0)], [("only", 0, 1, None)], [("sort", 0), ("fold", 1)], [("click", 0)],
                  [("click", 0), ("click", 1), ("click", 1)], [("turn", 1)], [("turn", 2), ("turn", 1)],
                  [("visit", "few")], [("visit", "few"), ("sort", 0)], [("visit", "few"), ("sort", 0), ("visit", "all")],
                  [("visit", "few"), ("click", 0), ("click", 0), ("visit", "all")]]
        windows = [window_of()]
        for script in behind:
            windows.append(window_of())
            windows[-1].run(script)
        for at, one in enumerate(windows):
            for place, other in enumerate(windows):
                self.assertEqual(one == other, at == place)
                self.assertEqual(one != other, at != place)

    def test_house_height_and_room_count(self):
        house = example_house()
        window = Window(house, 3, 2)
        for other in (Window(house, 4, 2), Window(house, 3, 1), Window(house.with_table("few", Table(1, [[8]])), 3, 2),
                      Window(house.without("few"), 3, 2), Window(house.renamed("few", "fewer"), 3, 2),
                      house, None, 3, "window", []):
            self.assertFalse(window == other)
            self.assertTrue(window != other)


class ReaderTest(unittest.TestCase):
    def test_it_is_a_window(self):
        self.assertTrue(issubclass(Reader, Window))
        self.assertEqual((vars(Reader)["__call__"].__qualname__, vars(Reader)["run"].__qualname__),
                         ("Reader.__call__", "Reader.run"))

    def test_what_it_equals(self):
        reader, window = window_of(kind=Reader), window_of()
        for one, other in ((reader, window), (window, reader), (reader, window.twin()), (reader.twin(), window)):
            self.assertFalse(one == other)
            self.assertTrue(one != other)
        self.assertTrue(reader == window_of(kind=Reader) == reader.twin())
        reader(("sort", 0))
        self.assertFalse(reader == window_of(kind=Reader))
        self.assertFalse(reader == window_of(4, kind=Reader))
        self.assertFalse(reader == 3)

    def test_nothing_can_be_marked(self):
        for deed in MARKING:
            reader = window_of(kind=Reader)
            reader(("sort", 0))
            self.assertEqual(error_of(reader, deed), (InvalidDeed, deed))
            # In a script the first such deed is told ahead of all other errors.
            script = [("sort", 9), ("mark",), ("visit", "z"), deed, ("click", 77)]
            self.assertEqual(error_of(reader.run, script), (InvalidDeed, deed))
            self.assertEqual((len(reader), reader.marks, reader.log()), (1, [], [("sort", 0)]))
        self.assertEqual(error_of(window_of(kind=Reader).run, [("sort", 9), ("mark",)]), (InvalidColumn, 9))

    def test_all_else_as_a_window(self):
        for chance in chances(10):
            house = random_house(chance)
            reader, window = Reader(house, 3, 4), Window(house, 3, 4)
            words = ["sort", "only", "fold", "one", "all", "turn", "visit"]
            for deed in random_script(chance, house, 20, words):
                self.assertEqual(reader(deed), window(deed))
                self.assertEqual(reader.run([deed, deed]), window.run([deed, deed]))
            self.assertEqual(all_back_and_again(reader), all_back_and_again(window))


class SpoiltTest(unittest.TestCase):
    def test_what_a_window_returns_may_be_spoilt(self):
        window = window_of()
        script = [("sort", 0), ("click", 0), ("range", 2), ("fold", 1), ("visit", "few"), ("visit", "all")]
        window.run(script)
        window(("turn", 1))
        before, told = all_of(window), all_back_and_again(window)
        script.append(("sort", 1))
        for held in (window.trail, window.marks, window.seen(), window.log(), window.view().sorting, window.to(2),
                     window.view().folds, window.view().folds[0], window.view().lines(), window.run([])):
            held.append("spoilt")
        window.undo()
        self.assertEqual(all_of(window), before)
        self.assertEqual(all_back_and_again(window)[0], told[0])
        returned = window(("turn", 0))
        returned.clear()
        self.assertEqual(window.seen(), seen_lines(window.view(), 3, window.scrolls[0]))

    def test_places_that_were_passed_may_be_spoilt(self):
        places = [("all", example_table()), ("few", Table(1, [[7]]))]
        house = House(places)
        window = Window(house, 3, 2)
        places.clear()
        house.names.clear()
        window(("visit", "few"))
        self.assertEqual(window.trail, ["all", "few"])


class WholeTest(unittest.TestCase):
    def test_marks_and_orders(self):
        # Sorting, filtering, folding, scrolling and visiting change no marks; marking changes no order and no lines.
        for chance in chances(15):
            house = random_house(chance)
            window = Window(house, 3, 4)
            for deed in random_script(chance, house, 40):
                here, marks, lines, scrolls = window.here, window.marks, window.view().lines(), window.scrolls
                window(deed)
                if deed[0] in ("click", "range"):
                    self.assertEqual((window.view().lines(), window.scrolls), (lines, scrolls))
                elif window.here == here:
                    self.assertEqual(window.marks, marks)

    def test_window_and_page_scroll_as_one_room(self):
        for chance in chances(20):
            height, room = chance.randrange(1, 8), chance.randrange(5)
            window = Window(House([("a", random_table(chance, 1, 6))]), height, room)
            window(chance.choice([("sort", 0), ("fold", 1)]))
            size = room_by(window.view().lines(), height) + room
            whole = 0
            for turn in [chance.randrange(-9, 10) for _ in range(12)]:
                window(("turn", turn))
                whole = max(0, min(size, whole + turn))
                self.assertEqual(sum(window.scrolls), whole)


class LimitsTest(unittest.TestCase):
    def test_at_the_limits(self):
        chance = random.Random(9)
        house = great_house()
        window, model = Window(house, 7, GREAT), WindowModel(house, 7, GREAT)
        told = [window.seen()]
        for number in range(100):
            script = random_script(chance, house, 2)
            model.do_all(script)
            self.assertEqual(window.run(script), model.seen())
            told.append(window.seen())
        self.assertEqual((len(window), len(window.log())), (100, 200))
        for _ in range(4):
            for number in range(99, -1, -1):
                window.undo()
                self.assertEqual(window.seen(), told[number])
            for number in range(1, 101):
                window.redo()
                self.assertEqual(window.seen(), told[number])

    def test_a_great_script(self):
        house = great_house()
        script = random_script(random.Random(10), house, 200)
        window = Window(house, GREAT, 0)
        self.assertEqual(window.run(script), WindowModel(house, GREAT, 0).do_all(script).seen())
        for _ in range(400):
            window.undo()
            window.redo()
        self.assertEqual(len(window.twin().log()), 200)
