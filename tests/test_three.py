import unittest

from plain import (
    TWELVE, Draws, PlainTree, all_lots, as_lots, check_raises, grown_lots, grown_nodes, has_bar, more_values, numbered,
    plain_blocks, plain_keeps,
)
from threeorders.books import Book
from threeorders.errors import InvalidLot
from threeorders.three import follows, refuted, three_orders
from threeorders.trees import Tree, tree_of

WORDS = ("alpha", "beta", "gamma")


def text(order):
    return " ".join(order)


def plain_order(word, children, shape, depth, lot):
    """One of the three orders by [20]; children, shape and depth are functions of lots."""
    if len(lot) == 1:
        return lot
    numbers = list(range(1, len(children(lot)) + 1))
    if word == "alpha":
        if depth(lot) % 2 == 1:
            numbers.reverse()
    elif shape(lot) == "loose" and len(numbers) > 2:
        even = [number for number in numbers if number % 2 == 0]
        odd = [number for number in numbers if number % 2 == 1]
        numbers = even + odd if word == "beta" else odd + even
    parts = [plain_order(word, children, shape, depth, children(lot)[number - 1]) for number in numbers]
    return tuple(name for part in parts for name in part)


class ByHandTest(unittest.TestCase):
    def check(self, told, alpha, beta, gamma):
        orders = three_orders(Tree.read(told))
        self.assertEqual([text(order) for order in orders], [alpha, beta, gamma])
        self.assertEqual(three_orders(tree=Tree.read(told)), orders)
        self.assertIsInstance(orders, tuple)
        self.assertTrue(all(isinstance(order, tuple) for order in orders))

    def test_one_find(self):
        self.check("q", "q", "q", "q")

    def test_loose_nodes_of_two_to_six_children(self):
        self.check("(a b)", "a b", "a b", "a b")
        self.check("(a b c)", "a b c", "b a c", "a c b")
        self.check("(a b c d)", "a b c d", "b d a c", "a c b d")
        self.check("(a b c d e)", "a b c d e", "b d a c e", "a c e b d")
        self.check("(a b c d e f)", "a b c d e f", "b d f a c e", "a c e b d f")

    def test_rows(self):
        self.check("[a b c]", "a b c", "a b c", "a b c")
        self.check("[b a d c]", "b a d c", "b a d c", "b a d c")

    def test_even_and_odd_depths(self):
        self.check("([a (b c) d] e)", "d b c a e", "a b c d e", "a b c d e")
        self.check("((a b c) d e)", "c b a d e", "d b a c e", "a c b e d")
        self.check("(a (b (c (d e))))", "a c e d b", "a b c d e", "a b c d e")
        self.check("(a (b (c d)))", "a c d b", "a b c d", "a b c d")
        self.check("[(a b) ((c d e) [f g h]) i]", "b a f g h c d e i", "a b d c e f g h i", "a b c e d f g h i")

    def test_twelve_children(self):
        self.check("(a b c d e f g h i j k l)", "a b c d e f g h i j k l", "b d f h j l a c e g i k",
                   "a c e g i k b d f h j l")


class GrownTreesTest(unittest.TestCase):
    def test_by_the_rules(self):
        draws = Draws(733)
        for at in range(120):
            growth = numbered(draws.growth(TWELVE[:12 - at % 12]))
            finds = TWELVE[:12 - at % 12]
            rows = {lot: (depth, shape, children) for depth, shape, lot, children in grown_nodes(growth)}
            tree = Tree(finds, grown_lots(growth))
            for word, order in zip(WORDS, three_orders(tree)):
                plain = plain_order(word, lambda lot: rows[lot][2], lambda lot: rows[lot][1], lambda lot: rows[lot][0],
                                    tuple(finds))
                self.assertEqual(order, plain, (word, tree))
                self.assertIs(tree.fits(order), True)
            self.check_lots(tree, [draws.lot(finds) for _ in range(40)])

    def check_lots(self, tree, lots):
        orders = three_orders(tree)
        for lot in lots:
            self.assertIs(follows(tree, lot), lot in tree)
            self.assertEqual(all(plain_keeps(order, lot) for order in orders), lot in tree)
            self.check_refuted(tree, orders, lot)

    def check_refuted(self, tree, orders, lot):
        torn = [(word, order) for word, order in zip(WORDS, orders) if not plain_keeps(order, lot)]
        if not torn:
            self.assertIsNone(refuted(tree, lot))
            self.assertIn(lot, tree)
        else:
            word, order = torn[0]
            places = [order.index(name) for name in lot]
            gaps = [order[at] for at in range(min(places), max(places)) if at not in places]
            self.assertEqual(refuted(tree, lot), (word, order, gaps[0]))
            self.assertIsInstance(refuted(tree, lot), tuple)

    def test_all_lots_of_small_books(self):
        draws = Draws(739)
        words = {}
        for _ in range(300):
            finds, told = draws.book(6, 6)
            lots = [lot for _, lot in told]
            if has_bar(plain_blocks(finds, lots)):
                continue
            tree = tree_of(Book(finds, told))
            plain = PlainTree(finds, lots)
            self.assertEqual(tree.blocks(), as_lots(plain.blocks))
            for word, order in zip(WORDS, three_orders(tree)):
                made = plain_order(word, lambda lot: plain.children(frozenset(lot)),
                                   lambda lot: plain.shape(frozenset(lot)), plain.depth, tuple(finds))
                self.assertEqual(order, made)
            self.check_lots(tree, all_lots(finds))
            for lot in all_lots(finds):
                found = refuted(tree, lot)
                words[found and found[0]] = words.get(found and found[0], 0) + 1
        self.assertTrue(min(words.get(word, 0) for word in (None, *WORDS)) > 5, words)


class WrongValuesTest(unittest.TestCase):
    def test_lots(self):
        tree = Tree(list("abcde"), [("a", "b", "c"), ("b", "c", "d")])
        for value in [*more_values(), ("f",), ("a", "f"), ["a", "b"], ("c", "b"), "ab"]:
            if value not in all_lots("abcde"):
                check_raises(self, InvalidLot(0), follows, tree, value)
                check_raises(self, InvalidLot(0), refuted, tree, value)

    def test_the_example(self):
        tree = tree_of(Book.read("finds a b c d e\nword pot a b c\nword urn b c d\n"))
        self.assertEqual(refuted(tree, ("a", "b")), ("alpha", ("d", "b", "c", "a", "e"), "c"))
        self.assertEqual(refuted(lot=("a", "b"), tree=tree), ("alpha", ("d", "b", "c", "a", "e"), "c"))
        self.assertIs(follows(lot=("b", "c"), tree=tree), True)
        self.assertIs(follows(tree, ("a", "b")), False)
        self.assertIsNone(refuted(tree, ("b", "c")))

    def test_one_find(self):
        self.assertIs(follows(Tree(["a"]), ("a",)), True)
        self.assertIsNone(refuted(Tree(["a"]), ("a",)))
        check_raises(self, InvalidLot(0), refuted, Tree(["a"]), ("b",))

    def test_the_first_gap(self):
        tree = Tree(list("abcde"))
        self.assertEqual(refuted(tree, ("a", "e")), ("alpha", tuple("abcde"), "b"))
        self.assertEqual(refuted(tree, ("b", "c")), ("beta", tuple("bdace"), "d"))
        self.assertEqual(refuted(Tree(list("abcd")), ("a", "b", "c")), ("beta", tuple("bdac"), "d"))
        self.assertEqual(refuted(Tree(list("abc")), ("a", "b")), ("gamma", tuple("acb"), "c"))


if __name__ == "__main__":
    unittest.main()
