import itertools
import math
import unittest

from plain import (
    MARKS, TWELVE, Draws, check_raises, drawn_case, grown_lots, grown_many, grown_order, more_values, numbered, orders_of,
)
from threeorders.books import Book
from threeorders.counting import all_orders, count_orders, order_at, rank_of
from threeorders.errors import InvalidNumber, NotFitting
from threeorders.trees import Tree
from threeorders.webs import Web, web_of


class SmallWebsTest(unittest.TestCase):
    def test_against_listing_all_orders(self):
        draws = Draws(1201)
        sizes = {}
        for _ in range(300):
            finds, words, facts, _, fitting = drawn_case(draws)
            if fitting:
                sizes[len(fitting)] = True
                self.check_web(web_of(Book(finds, words), facts), sorted(fitting), draws)
        self.assertTrue(len(sizes) > 20, sizes)

    def check_web(self, web, orders, draws):
        self.assertEqual(count_orders(web), len(orders))
        self.assertEqual(list(all_orders(web)), orders)
        ranks = range(len(orders)) if len(orders) < 40 else [0, len(orders) - 1] + [draws.below(len(orders)) for _ in range(20)]
        for rank in ranks:
            self.assertEqual(order_at(web, rank), orders[rank])
            self.assertEqual(rank_of(web, orders[rank]), rank)
        for rank in (-1, len(orders), len(orders) + 5):
            check_raises(self, InvalidNumber(rank), order_at, web, rank)
        for order in orders_of(tuple(web.tree.finds())):
            if order not in orders and draws.below(8) == 0:
                check_raises(self, NotFitting(), rank_of, web, order)

    def test_all_ranks_of_a_mixed_tree(self):
        web = Web(Tree.read("([a (b g) d] (c f) e)"), [("m", ("before", "f", "c")), ("n", ("before", "e", "a"))])
        orders = [order for order in itertools.permutations("abcdefg") if web.fits(order)]
        self.assertEqual(list(all_orders(web)), orders)
        self.assertEqual([order_at(web, rank) for rank in range(len(orders))], orders)
        self.assertEqual([rank_of(web, order) for order in orders], list(range(len(orders))))


class ManyOrdersTest(unittest.TestCase):
    def test_a_loose_node_of_twelve_children(self):
        web = Web(Tree(TWELVE))
        many = math.factorial(12)
        self.assertEqual(count_orders(web), many)
        self.assertEqual(order_at(web, 0), tuple(TWELVE))
        self.assertEqual(order_at(web, many - 1), tuple(TWELVE[::-1]))
        self.assertEqual(order_at(web, math.factorial(11)), ("b", "a", *TWELVE[2:]))
        self.assertEqual(rank_of(web, tuple(TWELVE[::-1])), many - 1)
        self.assertEqual(list(itertools.islice(all_orders(web), 1000)),
                         list(itertools.islice(itertools.permutations(TWELVE), 1000)))
        for rank in (many, -1, 10 ** 9):
            check_raises(self, InvalidNumber(rank), order_at, web, rank)

    def test_ranks_there_and_back(self):
        draws = Draws(1213)
        for at in range(25):
            growth = numbered(draws.growth(TWELVE))
            order = grown_order(growth, draws)
            facts = []
            for mark in MARKS[:at % 6]:
                x, y = sorted([draws.below(12), draws.below(12)])
                if x < y:
                    facts.append((mark, ("before", order[x], order[y])))
            web = Web(Tree(TWELVE, grown_lots(growth)), facts)
            many = count_orders(web)
            if not facts:
                self.assertEqual(many, grown_many(growth))
            self.assertEqual(order_at(web, rank_of(web, order)), order)
            ranks = sorted({0, many - 1, *[draws.below(many) for _ in range(8)]})
            found = [order_at(web, rank) for rank in ranks]
            self.assertEqual(found, sorted(found))
            self.assertTrue(all(web.fits(each) for each in found))
            self.assertEqual([rank_of(web, each) for each in found], ranks)
            listed = list(itertools.islice(all_orders(web), 20))
            self.assertEqual(listed, [order_at(web, rank) for rank in range(min(many, 20))])

    def test_twelve_children_with_links(self):
        facts = [(MARKS[at], ("before", TWELVE[11 - at], TWELVE[at])) for at in range(6)]
        web = Web(Tree(TWELVE), facts)
        self.assertEqual(count_orders(web), math.factorial(12) // 64)
        for rank in (0, 1, 100000, count_orders(web) - 1):
            self.assertEqual(rank_of(web, order_at(web, rank)), rank)
        self.assertEqual(order_at(web, 0), next(all_orders(web)))
        chain = Web(Tree(TWELVE), [(MARKS[at], ("before", TWELVE[at + 1], TWELVE[at])) for at in range(11)])
        self.assertEqual(list(all_orders(chain)), [tuple(TWELVE[::-1])])
        self.assertEqual((count_orders(chain), order_at(chain, 0)), (1, tuple(TWELVE[::-1])))


class AskingsTest(unittest.TestCase):
    def test_two_within_one_another_and_broken_off(self):
        web = Web(Tree(["a", "b", "c"], [("a", "c")]))
        orders = [tuple("acb"), tuple("bac"), tuple("bca"), tuple("cab")]
        self.assertEqual(list(all_orders(web)), orders)
        pairs = [(one, other) for one in all_orders(web) for other in all_orders(web)]
        self.assertEqual(pairs, list(itertools.product(orders, orders)))
        one, other = all_orders(web), all_orders(web=web)
        self.assertEqual([next(one), next(one), next(other), next(one), next(other)],
                         [orders[0], orders[1], orders[0], orders[2], orders[1]])
        self.assertEqual(list(all_orders(web)), orders)
        self.assertEqual(list(one), orders[3:])

    def test_one_and_two_finds(self):
        web = Web(Tree(["a"]), [("m", ("last", "a"))])
        self.assertEqual((count_orders(web), order_at(web, 0), rank_of(web, ("a",))), (1, ("a",), 0))
        self.assertEqual(list(all_orders(web)), [("a",)])
        check_raises(self, InvalidNumber(1), order_at, web, 1)
        web = Web(Tree(["a", "b"]))
        self.assertEqual(list(all_orders(web)), [("a", "b"), ("b", "a")])
        self.assertEqual(order_at(web.with_fact("m", ("last", "a")), 0), ("b", "a"))

    def test_named_arguments(self):
        web = Web(Tree(["a", "b"]))
        self.assertEqual(count_orders(web=web), 2)
        self.assertEqual(order_at(rank=1, web=web), ("b", "a"))
        self.assertEqual(rank_of(order=("b", "a"), web=web), 1)

    def test_the_example(self):
        web = Web(Tree(["a", "b", "c"]), [("m", ("before", "a", "b")), ("n", ("before", "a", "c"))])
        self.assertEqual([count_orders(web), list(all_orders(web))], [2, [("a", "b", "c"), ("a", "c", "b")]])


class WrongValuesTest(unittest.TestCase):
    def test_ranks_and_orders(self):
        web = Web(Tree(["b", "c", "d"]), [("m", ("before", "c", "b"))])
        for value in [*more_values(), "1", (0,), [0], 3]:
            if isinstance(value, bool) or value not in (0, 1, 2):
                check_raises(self, InvalidNumber(value), order_at, web, value)
            check_raises(self, NotFitting(), rank_of, web, value)
        for value in (["c", "b", "d"], ("c", "b"), ("b", "c", "d"), ("c", "b", "d", "d"), ("c", "b", "e"), "cbd"):
            check_raises(self, NotFitting(), rank_of, web, value)
        self.assertEqual(rank_of(web, ("c", "b", "d")), 0)


if __name__ == "__main__":
    unittest.main()
