import unittest

from plain import TWELVE, Draws, check_raises, grown_lots, has_bar, orders_of, plain_blocks
from threeorders.alike import alike, differing, parted_by
from threeorders.books import Book
from threeorders.errors import OtherFinds
from threeorders.three import three_orders
from threeorders.trees import Tree, tree_of


class AlikeTest(unittest.TestCase):
    def check_pair(self, one, other):
        here, there = one.blocks(), other.blocks()
        self.assertIs(alike(one, other), here == there)
        left = [lot for lot in here if lot not in there], [lot for lot in there if lot not in here]
        self.assertEqual(differing(one, other), left)
        self.assertEqual(differing(one=one, other=other), left)
        order = parted_by(one, other)
        if here == there:
            self.assertIsNone(order)
        else:
            self.assertIsInstance(order, tuple)
            self.assertIs(one.fits(order), not other.fits(order))
        kept = all(other.fits(order) for order in three_orders(one)) and all(one.fits(o) for o in three_orders(other))
        self.assertIs(kept, here == there)
        return here == there

    def test_small_trees_both_ways_round(self):
        draws = Draws(811)
        trees = {}
        for _ in range(700):
            finds, words = draws.book(5, 5)
            if not has_bar(plain_blocks(finds, [lot for _, lot in words])):
                trees.setdefault(len(finds), []).append(tree_of(Book(finds, words)))
        many = [0, 0]
        for group in trees.values():
            for one, other in zip(group, group[1:]):
                self.check_pair(one, other)
                many[self.check_pair(other, one)] += 1
        self.assertTrue(min(many) > 30, many)

    def test_trees_of_twelve_finds(self):
        draws = Draws(821)
        for _ in range(30):
            lots = grown_lots(draws.growth(TWELVE))
            one, other = Tree(TWELVE, lots), Tree(TWELVE, lots[1:])
            self.check_pair(one, other)
            self.check_pair(other, one)
            self.assertIs(alike(one, Tree(TWELVE[::-1], lots[::-1])), True)
            self.check_pair(one, Tree(TWELVE))

    def test_by_hand(self):
        one, other = Tree(["a", "b", "c"], [("a", "b")]), Tree(["a", "b", "c"], [("b", "c")])
        self.assertEqual(differing(one, other), ([("a", "b")], [("b", "c")]))
        self.assertEqual(differing(one, Tree(["a", "b", "c"])), ([("a", "b")], []))
        self.assertIs(alike(other=one, one=one), True)
        self.assertIs(alike(one, other), False)
        self.assertIsNone(parted_by(one=one, other=Tree(["c", "b", "a"], [("a", "b"), ("a",)])))
        fitting = [order for order in orders_of(("a", "b", "c")) if one.fits(order) != other.fits(order)]
        self.assertIn(parted_by(one, other), fitting)
        self.assertIn(parted_by(other, one), fitting)

    def test_one_and_two_finds(self):
        for finds in (["a"], ["a", "b"]):
            one, other = Tree(finds), Tree(finds, [tuple(finds)])
            self.assertEqual((alike(one, other), differing(one, other), parted_by(one, other)), (True, ([], []), None))

    def test_what_is_returned_may_be_changed(self):
        one, other = Tree(["a", "b", "c"], [("a", "b")]), Tree(["a", "b", "c"])
        differing(one, other)[0].clear()
        self.assertEqual(differing(one, other), ([("a", "b")], []))
        self.assertEqual(len(one), 5)

    def test_other_finds(self):
        one = Tree(["a", "b"])
        for other in (Tree(["a"]), Tree(["a", "c"]), Tree(["a", "b", "c"])):
            for function in (alike, differing, parted_by):
                check_raises(self, OtherFinds(), function, one, other)
                check_raises(self, OtherFinds(), function, other, one)


if __name__ == "__main__":
    unittest.main()
