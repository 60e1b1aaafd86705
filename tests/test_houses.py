"""[20] and listwindow/houses.py."""

import unittest

from listwindow.errors import InvalidName, InvalidNumber, UnknownPlace
from listwindow.houses import House
from listwindow.tables import Table
from tests.support import empty_table, error_of, example_table, great_table
from tests.window_model import great_house

ONE = Table(1, [[1]])
TWO = Table(1, [[2]])
NO_NAMES = ["", "ninechars", "A", "aB", "a1", "7", " ", "a b", "a ", " a", "a-b", "a_b", "~", "ab.", "a\n"]


def house_of(names):
    return House([(name, Table(1, [[at]])) for at, name in enumerate(names)])


class HouseTest(unittest.TestCase):
    def test_names_and_tables(self):
        house = House([("few", ONE), ("all", example_table()), ("z", empty_table())])
        self.assertEqual(house.names, ["few", "all", "z"])
        self.assertEqual((house["few"], house["all"], house["z"]), (ONE, example_table(), empty_table()))
        self.assertEqual(len(house), 3)
        self.assertEqual(House(places=[("a", Table(1, []))]).names, ["a"])

    def test_names_of_one_and_of_eight_letters(self):
        self.assertEqual(house_of(["a", "z", "abcdefgh", "qrstuvwx"]).names, ["a", "z", "abcdefgh", "qrstuvwx"])

    def test_errors(self):
        self.assertEqual(error_of(House, []), (InvalidNumber, 0))
        for name in NO_NAMES:
            self.assertEqual(error_of(house_of, ["a", name, "", "a"]), (InvalidName, name))
        self.assertEqual(error_of(house_of, ["a", "b", "c", "b", "a"]), (UnknownPlace, "b"))
        self.assertEqual(error_of(house_of, ["a", "a", "B"]), (InvalidName, "B"))

    def test_unknown_places(self):
        house = house_of(["a", "b"])
        for name in NO_NAMES + ["c", "aa"]:
            self.assertEqual(error_of(lambda: house[name]), (UnknownPlace, name))
        self.assertEqual(house["b"], Table(1, [[1]]))

    def test_with_table(self):
        house = house_of(["a", "b"])
        self.assertEqual(house.with_table("a", TWO), House([("a", TWO), ("b", ONE)]))
        self.assertEqual(house.with_table(name="b", table=TWO).names, ["a", "b"])
        self.assertEqual(house.with_table("aa", example_table()).names, ["a", "b", "aa"])
        self.assertEqual(house.with_table("aa", example_table())["aa"], example_table())
        for name in NO_NAMES:
            self.assertEqual(error_of(house.with_table, name, ONE), (InvalidName, name))
        self.assertEqual(house, house_of(["a", "b"]))

    def test_put_together(self):
        one, other = house_of(["b", "a"]), House([("d", TWO), ("c", ONE)])
        self.assertEqual((one + other).names, ["b", "a", "d", "c"])
        self.assertEqual(((one + other)["d"], (other + one)["a"]), (TWO, ONE))
        self.assertEqual(error_of(lambda: one + House([("c", ONE), ("a", ONE), ("b", ONE)])), (UnknownPlace, "a"))
        self.assertEqual(error_of(lambda: one + one), (UnknownPlace, "b"))
        self.assertEqual((one, other), (house_of(["b", "a"]), House([("d", TWO), ("c", ONE)])))
        for thing in (3, None, [("c", ONE)], ONE):
            with self.assertRaises(TypeError):
                one + thing

    def test_without(self):
        house = house_of(["a", "b", "c"])
        self.assertEqual(house.without(name="b").names, ["a", "c"])
        self.assertEqual(house.without("a").without("c"), House([("b", ONE)]))
        self.assertEqual(error_of(house.without("a").without("c").without, "b"), (InvalidNumber, 0))
        for name in NO_NAMES + ["d"]:
            self.assertEqual(error_of(house.without, name), (UnknownPlace, name))
            self.assertEqual(error_of(house_of(["a"]).without, name), (UnknownPlace, name))

    def test_renamed(self):
        house = house_of(["a", "b", "c"])
        self.assertEqual(house.renamed("b", "x").names, ["a", "x", "c"])
        self.assertEqual(house.renamed(name="b", other="x")["x"], ONE)
        self.assertEqual(house.renamed("b", "b"), house)
        for name in NO_NAMES:
            self.assertEqual(error_of(house.renamed, name, "A"), (UnknownPlace, name))
            self.assertEqual(error_of(house.renamed, "a", name), (InvalidName, name))
        self.assertEqual(error_of(house.renamed, "d", "a"), (UnknownPlace, "d"))
        self.assertEqual(error_of(house.renamed, "b", "a"), (UnknownPlace, "a"))
        self.assertEqual(error_of(lambda: house.renamed("b", "x")["b"]), (UnknownPlace, "b"))

    def test_it_never_changes(self):
        places = [("a", ONE), ("b", TWO)]
        house = House(places)
        places.append(("c", ONE))
        house.names.append("d")
        house.with_table("a", TWO)
        house.renamed("a", "x")
        self.assertEqual(house, House([("a", ONE), ("b", TWO)]))

    def test_equality(self):
        house = House([("a", ONE), ("b", TWO)])
        self.assertTrue(house == House([("a", Table(1, [[1]])), ("b", Table(1, [[2]]))]))
        self.assertFalse(house != House([("a", Table(1, [[1]])), ("b", Table(1, [[2]]))]))
        for other in (House([("b", TWO), ("a", ONE)]), House([("a", ONE)]), House([("a", ONE), ("b", ONE)]),
                      House([("a", ONE), ("c", TWO)]), house + House([("c", ONE)]), [("a", ONE), ("b", TWO)], None, 2):
            self.assertFalse(house == other)
            self.assertTrue(house != other)

    def test_it_is_not_iterated_over(self):
        with self.assertRaises(TypeError):
            list(house_of(["a"]))

    def test_at_the_limits(self):
        house = great_house()
        self.assertEqual(len(house), 6)
        self.assertEqual(house["zzzzzzzz"], great_table(seed=5))
        self.assertEqual(len(house.with_table("more", great_table())), 7)
