import itertools
import unittest

from plain import MARKS, TWELVE, Draws, all_lots, any_values, check_raises, drawn_case, more_values, plain_keeps
from threeorders.books import Book
from threeorders.errors import InvalidNumber, InvalidTimes, InvalidWeights, UnknownFind
from threeorders.orders import cut_order
from threeorders.places import places
from threeorders.prices import cheapest, cheapest_at, cost, lump
from threeorders.trees import Tree
from threeorders.webs import Web, web_of
from wide import Ahead, drawn_web


def plain_cost(order, times, weights):
    return sum(weights[name] * sum(times[each] for each in order[:at + 1]) for at, name in enumerate(order))


def drawn_prices(draws, finds, most=9):
    return {name: 1 + draws.below(most) for name in finds}, {name: draws.below(most + 1) for name in finds}


class CostTest(unittest.TestCase):
    def test_by_hand(self):
        times, weights = {"a": 2, "b": 1, "c": 10}, {"a": 1, "b": 3, "c": 0}
        self.assertEqual(cost(("a", "b"), times=times, weights=weights), 2 + 9)
        self.assertEqual(cost(("b", "a"), times=times, weights=weights), 3 + 3)
        self.assertEqual(cost(("c", "a", "b"), times=times, weights=weights), 0 + 12 + 39)
        self.assertEqual(cost(order=("c",), weights=weights, times=times), 0)

    def test_greatest_and_least_numbers(self):
        self.assertEqual(cost(("a",), times={"a": 1}, weights={"a": 0}), 0)
        self.assertEqual(cost(("a",), times={"a": 999999}, weights={"a": 999999}), 999999 ** 2)
        order = tuple(TWELVE)
        numbers = {name: 999999 for name in order}
        self.assertEqual(cost(order, times=numbers, weights=numbers), 999999 ** 2 * 78)
        self.assertEqual(cheapest(Web(Tree(TWELVE)), times=numbers, weights=numbers)[0], 999999 ** 2 * 78)

    def test_other_keys_count_for_nothing(self):
        times = {"a": 2, "b": None, "Z": -1, 7: "x", None: 3, ("a", "b"): [], True: True}
        weights = {"a": 5, "b": "x", 1: None, ("a",): 10 ** 9}
        kept = dict(times), dict(weights)
        self.assertEqual(cost(("a",), times=times, weights=weights), 10)
        self.assertEqual(cheapest(Web(Tree(["a"])), times=times, weights=weights), (10, ("a",)))
        self.assertEqual(cheapest_at(Web(Tree(["a"])), "a", 0, times=times, weights=weights), (10, ("a",)))
        self.assertEqual((times, weights), kept)

    def test_dicts_count_at_the_call(self):
        times, weights = {"a": 1, "b": 1}, {"a": 1, "b": 2}
        web = Web(Tree(["a", "b"]))
        self.assertEqual(cheapest(web, times=times, weights=weights), (4, ("b", "a")))
        weights["a"] = 3
        self.assertEqual(cheapest(web, times=times, weights=weights), (7, ("a", "b")))
        self.assertEqual((times, weights), ({"a": 1, "b": 1}, {"a": 3, "b": 2}))


class CheapestTest(unittest.TestCase):
    def test_the_example(self):
        self.assertEqual(cheapest(Web(Tree(["a", "b"])), times={"a": 2, "b": 1}, weights={"a": 1, "b": 3}), (6, ("b", "a")))

    def check_web(self, web, times, weights, least):
        """Compares with a function that tells the lowest cost, or that where a find has a place."""
        price, order = cheapest(web, times=times, weights=weights)
        self.assertTrue(web.fits(order))
        self.assertEqual(cost(order, times=times, weights=weights), price)
        self.assertEqual(price, least(None, None))
        for name in web.tree.finds():
            for place in places(web, name):
                price, order = cheapest_at(web, name, place, times=times, weights=weights)
                self.assertTrue(web.fits(order) and order[place] == name)
                self.assertEqual(cost(order, times=times, weights=weights), price)
                self.assertEqual(price, least(name, place))

    def test_against_all_orders(self):
        draws = Draws(1601)
        for _ in range(120):
            finds, words, facts, _, fitting = drawn_case(draws, 5)
            if fitting:
                times, weights = drawn_prices(draws, finds, (3, 9, 99)[draws.below(3)])
                self.check_web(
                    web_of(Book(finds, words), facts), times, weights,
                    lambda name, place: min(plain_cost(order, times, weights) for order in fitting
                                            if name is None or order[place] == name))

    def test_against_the_sets_that_stand_ahead(self):
        draws = Draws(1603)
        for _ in range(12):
            web = drawn_web(draws, finds=TWELVE[:9])
            times, weights = drawn_prices(draws, TWELVE)
            ahead = Ahead(web)
            self.check_web(web, times, weights, lambda name, place: ahead.least_cost(times, weights, name, place))
        for _ in range(10):
            web = drawn_web(draws)
            times, weights = drawn_prices(draws, TWELVE)
            price, order = cheapest(web, times=times, weights=weights)
            self.assertTrue(web.fits(order) and plain_cost(order, times, weights) == price)
            self.assertEqual(price, Ahead(web).least_cost(times, weights))

    def test_a_loose_node_of_twelve_children(self):
        draws = Draws(1607)
        web = Web(Tree(TWELVE))
        times, weights = drawn_prices(draws, TWELVE, 999999)
        price, order = cheapest(web, times=times, weights=weights)
        self.assertEqual(plain_cost(order, times, weights), price)
        for one, other in zip(order, order[1:]):
            self.assertTrue(weights[one] * times[other] >= weights[other] * times[one])
        for place in (0, 5, 11):
            price, order = cheapest_at(web, order[3], place, times=times, weights=weights)
            self.assertEqual(plain_cost(order, times, weights), price)
        first = cheapest(web.with_fact("m", ("first", "h")), times=times, weights=weights)
        self.assertEqual(first, cheapest_at(web, "h", 0, times=times, weights=weights))

    def test_thirty_facts(self):
        facts = [(MARKS[at], ("before", TWELVE[at % 11], TWELVE[at % 11 + 1])) for at in range(30)]
        times, weights = drawn_prices(Draws(1609), TWELVE)
        web = Web(Tree(TWELVE), facts)
        self.assertEqual(cheapest(web, times=times, weights=weights),
                         (plain_cost(tuple(TWELVE), times, weights), tuple(TWELVE)))
        self.assertEqual(cheapest_at(web, "c", 2, times=times, weights=weights)[1], tuple(TWELVE))
        check_raises(self, InvalidNumber(1), cheapest_at, web, "c", 1, times=times, weights=weights)

    def test_named_arguments(self):
        web = Web(Tree(["a", "b"]))
        told = {"times": {"a": 1, "b": 2}, "weights": {"a": 0, "b": 1}}
        self.assertEqual(cheapest(web=web, **told), (2, ("b", "a")))
        self.assertEqual(cheapest_at(place=0, name="a", web=web, **told), (3, ("a", "b")))
        for function, values in ((cost, (("a",),)), (cheapest, (web,)), (cheapest_at, (web, "a", 0)), (lump, (("a",),))):
            with self.assertRaises(TypeError):
                function(*values, told["times"], told["weights"])


class LumpTest(unittest.TestCase):
    def test_by_hand(self):
        times, weights = {"a": 1, "b": 2, "c": 3, "Z": "z", 4: None}, {"c": 7, "b": 0, "a": 5, "q": -1}
        pair = lump(("b", "c"), times=times, weights=weights)
        self.assertEqual(pair, ({"a": 1, "b": 5, "Z": "z", 4: None}, {"a": 5, "b": 7, "q": -1}))
        self.assertIs(type(pair), tuple)
        self.assertEqual(times, {"a": 1, "b": 2, "c": 3, "Z": "z", 4: None})
        self.assertEqual(weights, {"c": 7, "b": 0, "a": 5, "q": -1})
        self.assertEqual(lump(lot=("a",), weights=weights, times=times), (times, weights))

    def test_what_is_returned_is_new(self):
        times, weights = {"a": 1, "x": [1, ([2],)]}, {"a": 0}
        one, other = lump(("a",), times=times, weights=weights)
        self.assertEqual((one, other), (times, weights))
        one["x"][1][0].append(3)
        one["a"] = other["a"] = 9
        self.assertEqual((times, weights), ({"a": 1, "x": [1, ([2],)]}, {"a": 0}))

    def test_the_consequence_about_the_cost(self):
        draws = Draws(1613)
        for _ in range(60):
            order = draws.order(TWELVE[:6])
            times, weights = drawn_prices(draws, order, (9, 999999)[draws.below(2)])
            for lot in all_lots(order):
                if plain_keeps(order, lot):
                    fewer, lighter = lump(lot, times=times, weights=weights)
                    shorter = tuple(name for name in order if name not in lot[1:])
                    at = min(order.index(name) for name in lot)
                    shorter = tuple(name for name in order[:at] if name not in lot) + (lot[0],) + \
                        tuple(name for name in order[at:] if name not in lot)
                    inner = cost(cut_order(order, lot), times=times, weights=weights)
                    less = sum(weights[name] for name in lot) * sum(times[name] for name in lot)
                    whole = plain_cost(shorter, fewer, lighter) + inner - less
                    self.assertEqual(cost(order, times=times, weights=weights), whole)

    def test_sums_beyond_the_greatest_number(self):
        times, weights = {"a": 999999, "b": 1, "c": 1}, {"a": 0, "b": 999999, "c": 1}
        fewer, lighter = lump(("a", "b", "c"), times=times, weights=weights)
        self.assertEqual((fewer, lighter), ({"a": 1000001}, {"a": 1000000}))
        check_raises(self, InvalidTimes("a"), cost, ("a",), times=fewer, weights=lighter)
        check_raises(self, InvalidTimes("a"), lump, ("a",), times=fewer, weights=lighter)
        check_raises(self, InvalidWeights("a"), cost, ("a",), times=times, weights=lighter)
        check_raises(self, InvalidWeights("a"), cheapest, Web(Tree(["a"])), times=times, weights=lighter)


class WrongValuesTest(unittest.TestCase):
    def setUp(self):
        self.web = Web(Tree(["a", "b", "c"]), [("m", ("before", "a", "b"))])
        self.calls = [
            (cost, (("c", "a", "b"),)), (cheapest, (self.web,)), (cheapest_at, (self.web, "a", 2)),
            (cheapest_at, (self.web, "a", None)), (lump, (("a", "b", "c"),)),
        ]

    def test_numbers_of_any_kind(self):
        right = {"a": 1, "b": 1, "c": 1}
        for value in [*more_values(), 1000000, -1, 10 ** 12, "7", [1]]:
            is_number = isinstance(value, int) and not isinstance(value, bool)
            for function, values in self.calls:
                if not is_number or not 1 <= value <= 999999:
                    check_raises(self, InvalidTimes("b"), function, *values, times={**right, "b": value}, weights=right)
                if not is_number or not 0 <= value <= 999999:
                    check_raises(self, InvalidWeights("b"), function, *values, times=right, weights={**right, "b": value})

    def test_the_first_find_counts_and_times_come_first(self):
        for function, values in self.calls:
            check_raises(self, InvalidTimes("a"), function, *values, times={}, weights={})
            check_raises(self, InvalidTimes("b"), function, *values, times={"a": 1, "c": 0}, weights={})
            check_raises(self, InvalidTimes("c"), function, *values, times={"a": 1, "b": 1, "c": True}, weights={"a": None})
            right = {"c": 1, "b": 1, "a": 1}
            check_raises(self, InvalidWeights("a"), function, *values, times=right, weights={"b": -1})
            check_raises(self, InvalidWeights("b"), function, *values, times=right, weights={"c": "x", "b": -1, "a": 0})

    def test_only_the_finds_that_are_meant(self):
        self.assertEqual(cost(("b",), times={"b": 1}, weights={"b": 2}), 2)
        self.assertEqual(lump(("b",), times={"b": 1, "c": 0}, weights={"b": 2}), ({"b": 1, "c": 0}, {"b": 2}))

    def test_finds_and_places(self):
        right = {"a": 1, "b": 1, "c": 1}
        for value in any_values():
            if value not in ("a", "b", "c"):
                check_raises(self, UnknownFind(value), cheapest_at, self.web, value, None, times={}, weights={})
            if isinstance(value, bool) or value not in (0, 1):
                check_raises(self, InvalidNumber(value), cheapest_at, self.web, "a", value, times=right, weights=right)
        for value in (2, 3, -1, 10 ** 12, (0,), [0]):
            check_raises(self, InvalidNumber(value), cheapest_at, self.web, "a", value, times=right, weights=right)
        check_raises(self, InvalidNumber(0), cheapest_at, self.web, "b", 0, times=right, weights=right)


class FewFindsTest(unittest.TestCase):
    def test_one_and_two(self):
        told = {"times": {"a": 3, "b": 1}, "weights": {"a": 2, "b": 4}}
        self.assertEqual(cheapest(Web(Tree(["a"])), **told), (6, ("a",)))
        self.assertEqual(cheapest_at(Web(Tree(["a"])), "a", 0, **told), (6, ("a",)))
        check_raises(self, InvalidNumber(1), cheapest_at, Web(Tree(["a"])), "a", 1, **told)
        web = Web(Tree(["a", "b"]))
        self.assertEqual((cheapest(web, **told), cheapest_at(web, "b", 1, **told)), ((12, ("b", "a")), (22, ("a", "b"))))
        web = web.with_fact("m", ("last", "b"))
        self.assertEqual(cheapest(web, **told), (22, ("a", "b")))
        self.assertEqual([order for order in itertools.permutations("ab") if web.fits(order)], [("a", "b")])


if __name__ == "__main__":
    unittest.main()
