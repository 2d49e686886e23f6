import itertools
import unittest

from plain import TWELVE, Draws, all_lots, check_raises, grown_lots, has_bar, more_values, plain_blocks, plain_keeps
from threeorders.errors import InvalidLot, InvalidOrder, TooMany
from threeorders.names import is_name
from threeorders.shared import fewest_orders, shared_tree, shares
from threeorders.three import three_orders
from threeorders.trees import Tree


def plain_shared(orders, lots):
    return [lot for lot in lots if all(plain_keeps(order, lot) for order in orders)]


def plain_fewest(orders, lots):
    kept = plain_shared(orders, lots)
    for many in range(1, len(orders) + 1):
        for indexes in itertools.combinations(range(len(orders)), many):
            if plain_shared([orders[at] for at in indexes], lots) == kept:
                return list(indexes)
    return None


def stretches(order):
    """The lots that an order keeps."""
    return [tuple(sorted(order[low:high])) for low in range(len(order)) for high in range(low + 1, len(order) + 1)]


def all_stretches(orders):
    """The lots that some of the orders keep."""
    return sorted({lot for order in orders for lot in stretches(order)})


def near_order(draws, order):
    """An order that was made out of another one by turning one stretch of it."""
    low = draws.below(len(order))
    high = low + 1 + draws.below(len(order) - low)
    return order[:low] + order[low:high][::-1] + order[high:]


class SmallOrdersTest(unittest.TestCase):
    def test_against_all_lots(self):
        draws = Draws(907)
        sizes = {}
        for _ in range(250):
            finds = TWELVE[:1 + draws.below(6)]
            orders = [draws.order(finds)]
            for _ in range(draws.below(8)):
                chosen = orders[draws.below(len(orders))]
                kind = draws.below(6)
                orders.append(chosen if kind == 0 else near_order(draws, chosen) if kind < 5 else draws.order(finds))
            self.check_orders(orders, all_lots(finds))
            sizes[len(fewest_orders(orders))] = True
        self.assertEqual(sorted(sizes), [1, 2, 3])

    def check_orders(self, orders, lots):
        before = list(orders)
        kept = plain_shared(orders, lots)
        for lot in lots:
            self.assertIs(shares(orders, lot), lot in kept)
        tree = shared_tree(orders)
        self.assertIsInstance(tree, Tree)
        self.assertEqual((tree.finds(), tree.blocks()), (sorted(orders[0]), sorted(kept)))
        found = fewest_orders(orders)
        self.assertEqual(found, plain_fewest(orders, lots))
        self.assertIsInstance(found, list)
        self.assertEqual((fewest_orders(tuple(orders)), shared_tree(tuple(orders))), (found, tree))
        self.assertEqual(orders, before)

    def test_one_order_more_never_adds_a_lot(self):
        draws = Draws(911)
        for _ in range(40):
            orders = [draws.order(TWELVE[:5])]
            while len(orders) < 8:
                tree = shared_tree(orders)
                orders.append(near_order(draws, orders[-1]))
                self.assertIs(shared_tree(orders).within(tree), True)


class TwelveFindsTest(unittest.TestCase):
    def test_the_three_orders_share_the_blocks_of_their_tree(self):
        draws = Draws(919)
        for _ in range(40):
            tree = Tree(TWELVE, grown_lots(draws.growth(TWELVE)))
            self.assertEqual(shared_tree(three_orders(tree)), tree)

    def test_eight_orders(self):
        draws = Draws(929)
        lots = [lot for lot in all_lots(TWELVE) if len(lot) < 4]
        for _ in range(6):
            orders = [tuple(TWELVE)]
            while len(orders) < 8:
                orders.append(near_order(draws, orders[-1]))
            tree = shared_tree(orders)
            for lot in lots[::7]:
                self.assertIs(shares(orders, lot), lot in tree)
            self.assertEqual(tree.blocks(), sorted(plain_shared(orders, stretches(orders[0]))))
            self.assertEqual(fewest_orders(orders), plain_fewest(orders, all_stretches(orders)))

    def test_all_eight_are_needed(self):
        orders = [tuple(TWELVE)]
        for at in range(7):
            turned = list(TWELVE)
            turned[at], turned[at + 1] = turned[at + 1], turned[at]
            orders.append(tuple(turned))
        self.assertEqual(fewest_orders(orders), [1, 2, 3, 4, 5, 6, 7])
        self.assertEqual(plain_fewest(orders, all_stretches(orders)), [1, 2, 3, 4, 5, 6, 7])
        self.assertEqual(fewest_orders([orders[7], *orders[:7]]), [0, 2, 3, 4, 5, 6, 7])


class ByHandTest(unittest.TestCase):
    def test_orders_twice_and_turned(self):
        orders = [tuple("abc"), tuple("abc"), tuple("cba"), tuple("acb")]
        self.assertEqual(fewest_orders(orders[:3]), [0])
        self.assertEqual(fewest_orders(orders), [0, 3])
        self.assertEqual(fewest_orders(orders[::-1]), [0, 1])
        self.assertEqual(shared_tree(orders[:3]).text(), "[a b c]")
        self.assertEqual(shared_tree(orders).text(), "(a (b c))")

    def test_named_arguments(self):
        orders = [tuple("abc"), tuple("acb")]
        self.assertIs(shares(lot=("b", "c"), orders=orders), True)
        self.assertIs(shares(lot=("a", "b"), orders=orders), False)
        self.assertEqual(shared_tree(orders=orders).text(), "(a (b c))")
        self.assertEqual(fewest_orders(orders=orders), [0, 1])

    def test_one_find_and_one_order(self):
        self.assertIs(shares([("a",)] * 8, ("a",)), True)
        self.assertEqual(shared_tree([("a",)]), Tree(["a"]))
        self.assertEqual(fewest_orders([("a",)] * 8), [0])
        self.assertEqual(shared_tree([("b", "a")]).text(), "(a b)")
        self.assertEqual(shared_tree([tuple(TWELVE)]).text(), "[a b c d e f g h i j k l]")

    def test_three_orders_are_needed_for_some_trees(self):
        tree = Tree(list("abc"))
        for two in itertools.combinations(itertools.permutations("abc"), 2):
            self.assertIs(has_bar(plain_blocks("abc", [])), False)
            self.assertNotEqual(shared_tree(two), tree)
        self.assertEqual(shared_tree(three_orders(tree)), tree)


class WrongValuesTest(unittest.TestCase):
    def check(self, error, orders):
        check_raises(self, error, shares, orders, None)
        check_raises(self, error, shared_tree, orders)
        check_raises(self, error, fewest_orders, orders)

    def test_no_lists(self):
        for value in more_values():
            if not isinstance(value, (list, tuple)) or len(value) == 0:
                self.check(InvalidOrder(-1), value)

    def test_many(self):
        self.check(TooMany(8), [("a",)] * 9)
        self.check(TooMany(8), [None] * 9)
        self.check(TooMany(8), tuple([("a", "b")] * 400))

    def test_the_first_order(self):
        for value in [*more_values(), tuple(TWELVE + ["m"]), ("a", "b", "a"), ["a", "b"], ("a", "B"), ()]:
            if not self.is_some_order(value):
                self.check(InvalidOrder(0), [value])
                self.check(InvalidOrder(0), (value, ("a",), None))

    def is_some_order(self, value):
        if not isinstance(value, tuple) or not 1 <= len(value) <= 12 or not all(is_name(name) for name in value):
            return False
        return len(set(value)) == len(value)

    def test_the_other_orders(self):
        for value in [*more_values(), ("a", "b", "c"), ("a",), ("a", "c"), ["a", "b"], ("a", "a")]:
            if value not in [("a", "b"), ("b", "a")]:
                self.check(InvalidOrder(1), [("a", "b"), value])
                self.check(InvalidOrder(3), (("a", "b"), ("b", "a"), ("a", "b"), value, None))

    def test_lots(self):
        for value in [*more_values(), ("c",), ("a", "c"), ["a", "b"]]:
            if value not in [("a",), ("b",), ("a", "b")]:
                check_raises(self, InvalidLot(0), shares, [("a", "b"), ("b", "a")], value)


if __name__ == "__main__":
    unittest.main()
