import itertools
import unittest

from plain import TWELVE, Draws, any_values, plain_keeps
from threeorders.errors import UnknownFind
from threeorders.orders import cut_order, gaps_of, is_order, keeps, place_in, turned

LONG = ("f", "a", "l", "c", "b", "k", "d", "j", "e", "i", "g", "h")


class IsOrderTest(unittest.TestCase):
    def test_all_orders_of_up_to_four(self):
        for many in range(1, 5):
            for order in itertools.permutations(TWELVE[:many]):
                self.assertIs(is_order(TWELVE[:many], order), True)
                self.assertIs(is_order(tuple(TWELVE[:many][::-1]), order), True)

    def test_long_orders(self):
        for many in range(1, 13):
            order = tuple(name for name in LONG if name in TWELVE[:many])
            self.assertIs(is_order(TWELVE[:many], order), True)
            self.assertIs(is_order(TWELVE[:many], order[1:]), False)
            self.assertIs(is_order(TWELVE[:many], order + order[:1]), False)
            self.assertIs(is_order(TWELVE[:many], order[:-1] + ("z",)), False)
            self.assertIs(is_order(TWELVE[:many], order + ("z",)), False)
            self.assertIs(is_order(TWELVE[:many], list(order)), False)
            if many > 1:
                self.assertIs(is_order(TWELVE[:many], order[:-1] + order[:1]), False)

    def test_any_values(self):
        for value in any_values():
            self.assertIs(is_order(["a"], value), isinstance(value, tuple) and value == ("a",), repr(value))
            right = isinstance(value, tuple) and value in (("a", "b"), ("b", "a"))
            self.assertIs(is_order(["a", "b"], value), right, repr(value))

    def test_by_name(self):
        self.assertIs(is_order(value=("b", "a"), finds=["a", "b"]), True)

    def test_arguments_stay(self):
        finds = ["c", "a", "b"]
        is_order(finds, ("a", "b", "c"))
        self.assertEqual(finds, ["c", "a", "b"])


class PlaceTest(unittest.TestCase):
    def test_places(self):
        for at, name in enumerate(LONG):
            self.assertEqual(place_in(LONG, name), at)
        self.assertEqual(place_in(("a",), "a"), 0)
        self.assertEqual(place_in(name="b", order=("a", "b")), 1)

    def test_unknown_finds(self):
        for value in [*any_values(), "z", "ab", 0, "fa"]:
            if not (isinstance(value, str) and value == "a"):
                with self.assertRaises(UnknownFind) as caught:
                    place_in(LONG, value)
                self.assertEqual(caught.exception.name, value)
        with self.assertRaises(UnknownFind):
            place_in(("b",), "a")


class KeepsTest(unittest.TestCase):
    def check(self, order, lot):
        gaps = gaps_of(order, lot)
        places = [order.index(name) for name in lot]
        expected = [name for at, name in enumerate(order)
                    if name not in lot and min(places) < at < max(places)]
        self.assertEqual(gaps, expected)
        self.assertIs(keeps(order, lot), plain_keeps(order, lot))
        self.assertIs(keeps(order, lot), gaps == [])

    def test_all_lots_in_all_orders_of_four(self):
        for order in itertools.permutations("abcd"):
            for many in range(1, 5):
                for lot in itertools.combinations("abcd", many):
                    self.check(order, lot)

    def test_long_orders(self):
        draws = Draws(3)
        for many in range(1, 13):
            order = tuple(name for name in LONG if name in TWELVE[:many])
            for _ in range(60):
                self.check(order, draws.lot(TWELVE[:many]))

    def test_gaps_are_by_places_and_new(self):
        self.assertEqual(gaps_of(LONG, ("g", "h")), [])
        self.assertEqual(gaps_of(LONG, ("b", "f", "j")), ["a", "l", "c", "k", "d"])
        gaps_of(LONG, ("b", "f")).append("x")
        self.assertEqual(gaps_of(LONG, ("b", "f")), ["a", "l", "c"])

    def test_by_name(self):
        self.assertIs(keeps(lot=("a", "c"), order=("a", "b", "c")), False)
        self.assertEqual(gaps_of(lot=("a", "c"), order=("a", "b", "c")), ["b"])


class TurnedAndCutTest(unittest.TestCase):
    def test_turned(self):
        self.assertEqual(turned(("a",)), ("a",))
        self.assertEqual(turned(("b", "a", "c")), ("c", "a", "b"))
        self.assertEqual(turned(order=LONG), tuple(reversed(LONG)))
        self.assertEqual(turned(turned(LONG)), LONG)

    def test_cut(self):
        self.assertEqual(cut_order(LONG, ("a", "b", "f")), ("f", "a", "b"))
        self.assertEqual(cut_order(LONG, ("h",)), ("h",))
        self.assertEqual(cut_order(LONG, tuple(TWELVE)), LONG)
        self.assertEqual(cut_order(lot=("a", "b"), order=("b", "c", "a")), ("b", "a"))
        self.assertIsInstance(cut_order(LONG, ("a",)), tuple)
