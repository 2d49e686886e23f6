import itertools
import unittest

from plain import (
    TWELVE, Draws, PlainTree, all_lots, as_lots, bar_in, check_raises, grown_lots, grown_many, grown_nodes, grown_order,
    grown_text, has_bar, is_bar, more_values, numbered, orders_of, plain_blocks, plain_orders,
)
from threeorders.books import Book
from threeorders.errors import (
    CannotStand, InvalidFind, InvalidLot, OtherFinds, Same, TooMany, UnknownFind, UnknownNode,
)
from threeorders.names import is_name
from threeorders.trees import Tree, tree_of

FIRST = [("a", "b", "c"), ("b", "c", "d")]


def state_of(tree):
    return (tree.finds(), tree.blocks(), tree.nodes(), list(tree.walk()), tree.text(), str(tree), repr(tree), len(tree),
            [(tree.shape(node), tree.children(node)) for node in tree.nodes()])


def first_tree():
    return Tree(list("edcba"), FIRST)


def check_cannot_stand(test, function, blocks):
    with test.assertRaises(CannotStand) as caught:
        function()
    bar = bar_in(caught.exception)
    test.assertEqual(list(bar), sorted(bar))
    test.assertTrue(is_bar(blocks, bar), bar)


class ExamplesTest(unittest.TestCase):
    def test_the_first_book(self):
        tree = tree_of(Book.read("finds a b c d e\nword pot a b c\nword urn b c d\n"))
        self.assertEqual((tree.text(), str(tree), len(tree)), ("([a (b c) d] e)", "([a (b c) d] e)", 10))
        self.assertEqual(repr(tree), "Tree(([a (b c) d] e))")
        self.assertEqual(tree, first_tree())
        self.assertEqual(tree_of(book=Book(["a", "b"])), Tree(["a", "b"]))
        self.assertEqual(tree.nodes(), [("a", "b", "c", "d"), ("a", "b", "c", "d", "e"), ("b", "c")])
        walk = [(0, "loose", tuple("abcde")), (1, "row", tuple("abcd")), (2, "loose", ("b", "c"))]
        self.assertEqual(list(tree.walk()), walk)
        self.assertEqual(tree.children(tuple("abcd")), [("a",), ("b", "c"), ("d",)])
        self.assertEqual(tree.children(tuple("abcde")), [tuple("abcd"), ("e",)])
        self.assertEqual([tree.depth(lot) for lot in (tuple("abcde"), ("e",), ("d",), ("b", "c"), ("b",))], [0, 1, 2, 2, 3])
        self.assertEqual(tree.parting("c", "b"), ("b", "c"))
        self.assertEqual(tree.parting("c", "a"), ("a", "b", "c", "d"))
        self.assertEqual(tree.parting("c", "e"), ("a", "b", "c", "d", "e"))
        self.assertEqual(tree.least_block(("a", "b")), ("a", "b", "c"))
        self.assertEqual(tree.least_block(("a", "d")), ("a", "b", "c", "d"))
        self.assertEqual(tree.least_block(("d",)), ("d",))

    def test_three_lots_that_cannot_stand(self):
        lots = [("a", "b"), ("b", "c"), ("a", "c")]
        check_raises(self, CannotStand(("a",), ("b",), ("c",)), Tree, ["a", "b", "c"], lots)
        book = Book(["a", "b", "c"], list(zip("mno", lots)))
        check_raises(self, CannotStand(("a",), ("b",), ("c",)), tree_of, book)

    def test_named_arguments(self):
        tree = Tree(lots=FIRST, finds=("e", "b", "c", "d", "a"))
        self.assertEqual(state_of(tree), state_of(first_tree()))
        self.assertEqual(tree.shape(lot=("b", "c")), "loose")
        self.assertEqual(tree.children(lot=("b", "c")), [("b",), ("c",)])
        self.assertEqual(tree.depth(lot=("b", "c")), 2)
        self.assertEqual(tree.least_block(lot=("b", "c")), ("b", "c"))
        self.assertEqual(tree.parting(x="a", y="e"), tuple("abcde"))
        self.assertIs(tree.fits(value=tuple("abcde")), True)
        self.assertEqual(tree.with_lot(lot=("a", "b")), tree + ("a", "b"))
        self.assertIs(tree.within(other=tree), True)
        self.assertEqual(tree.cut_to(lot=("a", "d")), Tree(["a", "d"]))


class EdgesTest(unittest.TestCase):
    def test_one_find(self):
        for tree in (Tree(["a"]), Tree(("a",), (("a",), ("a",)))):
            self.assertEqual(state_of(tree), (["a"], [("a",)], [], [], "a", "a", "Tree(a)", 1, []))
            self.assertEqual((tree.depth(("a",)), tree.least_block(("a",))), (0, ("a",)))
            self.assertIs(tree.fits(("a",)), True)
            check_raises(self, UnknownNode(("a",)), tree.shape, ("a",))
            check_raises(self, UnknownNode(("a",)), tree.children, ("a",))
            check_raises(self, Same("a"), tree.parting, "a", "a")
            self.assertEqual([tree + ("a",), tree | tree, tree & tree, tree.cut_to(("a",))], [tree] * 4)

    def test_two_finds(self):
        tree = Tree(["b", "a"], [["a", "b"]][:0])
        self.assertEqual(tree.text(), "(a b)")
        self.assertEqual(list(tree.walk()), [(0, "loose", ("a", "b"))])
        self.assertEqual(Tree(["a", "b"], [("a", "b")]), tree)
        self.assertEqual(tree.parting("b", "a"), ("a", "b"))

    def test_twelve_finds(self):
        tree = Tree(TWELVE)
        self.assertEqual((tree.text(), len(tree)), ("(a b c d e f g h i j k l)", 13))
        self.assertEqual(tree.children(tuple(TWELVE)), [(name,) for name in TWELVE])
        tree = Tree(TWELVE, [tuple(TWELVE[at:at + 2]) for at in range(11)])
        self.assertEqual((tree.text(), len(tree)), ("[a b c d e f g h i j k l]", 78))
        deep = Tree(TWELVE, [tuple(TWELVE[:many]) for many in range(2, 12)])
        self.assertEqual(deep.text(), "(" * 11 + "a b) c) d) e) f) g) h) i) j) k) l)")
        self.assertEqual(deep.depth(("a",)), 11)

    def test_many_lots(self):
        lots = [tuple(TWELVE[low:high]) for low in range(12) for high in range(low + 1, 13)]
        tree = Tree(TWELVE, lots * 5)
        self.assertEqual((len(tree), tree.blocks()), (78, sorted(lots)))
        self.assertEqual(tree, Tree(TWELVE, tree.blocks()))
        with self.assertRaises(CannotStand):
            Tree(TWELVE, lots * 5 + [("a", "c")])
        with self.assertRaises(CannotStand):
            Tree(TWELVE, all_lots(TWELVE))

    def test_a_ring_of_pairs(self):
        for many in range(3, 13):
            finds = TWELVE[:many]
            lots = [tuple(finds[at:at + 2]) for at in range(many - 1)]
            self.assertEqual(Tree(finds, lots[::-1]).text(), "[" + " ".join(finds) + "]")
            with self.assertRaises(CannotStand):
                Tree(finds, lots + [(finds[0], finds[-1])])


class SmallTreesTest(unittest.TestCase):
    def test_against_a_plain_closing(self):
        draws = Draws(203)
        standing, rows = 0, 0
        for _ in range(600):
            finds, words = draws.book(6, 6)
            lots = [lot for _, lot in words]
            blocks = plain_blocks(finds, lots)
            if has_bar(blocks):
                check_cannot_stand(self, lambda: Tree(finds, lots), blocks)
                check_cannot_stand(self, lambda: tree_of(Book(finds, words)), blocks)
            else:
                standing += 1
                tree = Tree(finds[::-1], lots)
                self.assertEqual(tree_of(Book(finds, words)), tree)
                rows += self.check_tree(tree, PlainTree(finds, lots))
                self.check_orders(tree, plain_orders(finds, lots))
        self.assertTrue(standing > 300 and rows > 100, (standing, rows))

    def check_tree(self, tree, plain):
        self.assertEqual(tree.finds(), plain.finds)
        self.assertEqual(tree.blocks(), as_lots(plain.blocks))
        self.assertEqual(len(tree), len(plain.blocks))
        self.assertEqual(tree.nodes(), as_lots(plain.nodes))
        for node in plain.nodes:
            lot = tuple(sorted(node))
            self.assertEqual(tree.shape(lot), plain.shape(node))
            self.assertEqual(tree.children(lot), plain.children(node))
            self.assertEqual(tree.depth(lot), plain.depth(lot))
        for name in plain.finds:
            self.assertEqual(tree.depth((name,)), plain.depth((name,)))
        for lot in all_lots(plain.finds):
            self.assertIs(lot in tree, frozenset(lot) in plain.blocks)
            least = min([block for block in plain.blocks if block >= set(lot)], key=len)
            self.assertEqual(tree.least_block(lot), tuple(sorted(least)))
        for x, y in itertools.permutations(plain.finds, 2):
            self.assertEqual(tree.parting(x, y), tuple(sorted(min([n for n in plain.nodes if {x, y} <= n], key=len))))
        return len([node for node in plain.nodes if plain.shape(node) == "row"])

    def check_orders(self, tree, orders):
        for order in orders_of(tuple(tree.finds())):
            self.assertIs(tree.fits(order), order in orders)


class GrownTreesTest(unittest.TestCase):
    def test_trees_of_many_finds(self):
        draws = Draws(311)
        for at in range(150):
            finds = TWELVE[:12 - at // 15]
            growth = numbered(draws.growth(finds))
            lots = list(draws.order(grown_lots(growth)))
            tree = Tree(list(draws.order(finds)), lots)
            text = grown_text(growth)
            self.assertEqual((tree.text(), str(tree), repr(tree)), (text, text, f"Tree({text})"))
            self.assertEqual(list(tree.walk()), [row[:3] for row in grown_nodes(growth)])
            for depth, shape, lot, children in grown_nodes(growth):
                self.assertEqual((tree.depth(lot), tree.shape(lot), tree.children(lot)), (depth, shape, children))
            self.assertEqual(Tree.read(text), tree)
            for _ in range(5):
                self.assertIs(tree.fits(grown_order(growth, draws)), True)
            if len(finds) < 7:
                many = len([order for order in itertools.permutations(finds) if tree.fits(order)])
                self.assertEqual(many, grown_many(growth))


class WrongValuesTest(unittest.TestCase):
    def test_finds(self):
        for value in more_values():
            if not isinstance(value, (list, tuple)) or len(value) == 0:
                check_raises(self, InvalidFind(-1), Tree, value, 1)
            if not is_name(value):
                check_raises(self, InvalidFind(1), Tree, ["a", value, None], None)
        check_raises(self, TooMany(12), Tree, TWELVE + ["m"], None)
        check_raises(self, TooMany(12), Tree, [None] * 13)
        check_raises(self, InvalidFind(2), Tree, ("a", "b", "a"), 7)

    def test_lots(self):
        for value in more_values():
            if not isinstance(value, (list, tuple)):
                check_raises(self, InvalidLot(-1), Tree, ["a", "b"], value)
            if value not in [("a",), ("a", "b")]:
                check_raises(self, InvalidLot(0), Tree, ["a", "b"], [value])
                check_raises(self, InvalidLot(2), Tree, ["a", "b"], (("a",), ("a", "b"), value, None))
        barred = [("a", "b"), ("b", "c"), ("a", "c"), ("a", "d")]
        check_raises(self, InvalidLot(3), Tree, ["a", "b", "c"], barred)
        self.assertEqual(Tree(["a", "b"], []), Tree(["a", "b"], ()))

    def test_nodes_and_lots(self):
        tree = first_tree()
        for value in [*more_values(), *all_lots("abcdef"), ["b", "c"], ("c", "b"), ("b", "c", "c"), ("lot", ("b", "c"))]:
            if value not in tree.nodes():
                check_raises(self, UnknownNode(value), tree.shape, value)
                check_raises(self, UnknownNode(value), tree.children, value)
                if value not in [("a",), ("b",), ("c",), ("d",), ("e",)]:
                    check_raises(self, UnknownNode(value), tree.depth, value)
            if value not in all_lots("abcde"):
                check_raises(self, InvalidLot(0), tree.least_block, value)
                check_raises(self, InvalidLot(0), tree.with_lot, value)
                check_raises(self, InvalidLot(0), lambda: tree + value)
                check_raises(self, InvalidLot(0), tree.cut_to, value)
            self.assertIs(value in tree, value in tree.blocks())

    def test_parting(self):
        tree = first_tree()
        for value in more_values():
            if value != "a":
                check_raises(self, UnknownFind(value), tree.parting, value, value)
                check_raises(self, UnknownFind(value), tree.parting, value, "a")
                check_raises(self, UnknownFind(value), tree.parting, "a", value)
        check_raises(self, UnknownFind("x"), tree.parting, "x", "y")
        check_raises(self, Same("b"), tree.parting, "b", "b")

    def test_fits(self):
        tree = first_tree()
        for value in [*more_values(), list("abcde"), tuple("abcd"), tuple("abcdef"), tuple("abcda"), "abcde"]:
            self.assertIs(tree.fits(value), False)
        self.assertIs(tree.fits(tuple("ebcad")), False)
        self.assertIs(tree.fits(tuple("edcba")), True)

    def test_values_that_are_no_trees(self):
        tree = Tree(["a"])
        for value in more_values():
            if not isinstance(value, Tree):
                self.assertIs(tree == value, False)
                self.assertIs(tree != value, True)


class PairsOfTreesTest(unittest.TestCase):
    def test_against_plain_blocks(self):
        draws = Draws(409)
        torn = 0
        trees = {}
        for _ in range(900):
            finds, words = draws.book(6, 5)
            if not has_bar(plain_blocks(finds, [lot for _, lot in words])):
                trees.setdefault(len(finds), []).append(tree_of(Book(finds, words)))
        for group in trees.values():
            for one, other in zip(group, group[1:]):
                torn += self.check_pair(one, other)
        self.assertTrue(torn > 30, torn)

    def check_pair(self, one, other):
        states = [state_of(one), state_of(other)]
        here, there = set(one.blocks()), set(other.blocks())
        common = one & other
        self.assertEqual(set(common.blocks()), here & there)
        self.assertEqual(common, other & one)
        self.assertIs(one.within(other), here <= there)
        self.assertIs(common.within(one) and common.within(other), True)
        self.assertIs(one == other, here == there)
        self.assertIs(one != other, here != there)
        blocks = plain_blocks(one.finds(), one.blocks() + other.blocks())
        torn = has_bar(blocks)
        if torn:
            check_cannot_stand(self, lambda: one | other, blocks)
        else:
            joined = one | other
            self.assertEqual(joined.blocks(), as_lots(blocks))
            self.assertIs(one.within(joined) and other.within(joined), True)
            self.assertEqual(joined, other | one)
        self.assertEqual([state_of(one), state_of(other)], states)
        return torn

    def test_other_finds(self):
        one = Tree(["a", "b"])
        for other in (Tree(["a"]), Tree(["a", "c"]), Tree(["a", "b", "c"])):
            for first, second in ((one, other), (other, one)):
                check_raises(self, OtherFinds(), first.within, second)
                check_raises(self, OtherFinds(), lambda: first | second)
                check_raises(self, OtherFinds(), lambda: first & second)
                self.assertIs(first == second, False)
        check_raises(self, OtherFinds(), lambda: Tree(["a", "b", "c"], [("a", "b")]) | Tree(["b", "c", "d"], [("b", "c")]))


class MoreLotsTest(unittest.TestCase):
    def test_one_lot_more(self):
        draws = Draws(503)
        for _ in range(60):
            finds, words = draws.book(5, 4)
            lots = [lot for _, lot in words]
            if has_bar(plain_blocks(finds, lots)):
                continue
            tree = Tree(finds, lots)
            state = state_of(tree)
            for lot in all_lots(finds):
                blocks = plain_blocks(finds, lots + [lot])
                if has_bar(blocks):
                    check_cannot_stand(self, lambda: tree + lot, blocks)
                    check_cannot_stand(self, lambda: tree.with_lot(lot), blocks)
                else:
                    self.assertEqual((tree + lot).blocks(), as_lots(blocks))
                    self.assertEqual(tree.with_lot(lot), tree + lot)
            self.assertEqual(state_of(tree), state)

    def test_cut_trees(self):
        draws = Draws(601)
        for _ in range(80):
            finds, words = draws.book(5, 4)
            lots = [lot for _, lot in words]
            orders = plain_orders(finds, lots)
            if not orders:
                continue
            tree = Tree(finds, lots)
            state = state_of(tree)
            for lot in all_lots(finds):
                cut = tree.cut_to(lot)
                self.assertEqual(cut.finds(), list(lot))
                expected = {tuple(name for name in order if name in lot) for order in orders}
                self.assertEqual({order for order in orders_of(lot) if cut.fits(order)}, expected)
                parts = [tuple(name for name in block if name in lot) for block in tree.blocks()]
                self.assertEqual(cut.blocks(), as_lots(plain_blocks(lot, [part for part in parts if part])))
            self.assertEqual(tree.cut_to(tuple(finds)), tree)
            self.assertEqual(state_of(tree), state)

    def test_a_cut_can_have_blocks_that_come_of_several(self):
        tree = first_tree()
        self.assertEqual(tree.cut_to(("a", "b", "d", "e")).text(), "([a b d] e)")
        self.assertEqual(tree.cut_to(("b", "c", "e")).text(), "((b c) e)")
        self.assertEqual(tree.cut_to(("a", "d", "e")).text(), "((a d) e)")

    def test_many_finds(self):
        draws = Draws(607)
        for _ in range(25):
            growth = draws.growth(TWELVE)
            tree = Tree(TWELVE, grown_lots(growth))
            for _ in range(6):
                lot = draws.lot(TWELVE)
                cut = tree.cut_to(lot)
                for _ in range(3):
                    order = grown_order(growth, draws)
                    self.assertIs(cut.fits(tuple(name for name in order if name in lot)), True)


class CopiesTest(unittest.TestCase):
    def test_what_was_passed_may_be_changed(self):
        finds, lots = list("cab"), [("a", "b")]
        tree = Tree(finds, lots)
        state = state_of(tree)
        self.assertEqual((finds, lots), (list("cab"), [("a", "b")]))
        finds.append("d")
        lots[0] = ("b", "c")
        lots.append(("a", "c"))
        self.assertEqual(state_of(tree), state)

    def test_what_was_returned_may_be_changed(self):
        tree = first_tree()
        state = state_of(tree)
        for answer in (tree.finds(), tree.blocks(), tree.nodes(), tree.children(tuple("abcd"))):
            answer.append("x")
            answer[0] = "y"
        list(tree.walk()).clear()
        self.assertEqual(state_of(tree), state)

    def test_elder_trees_stay(self):
        tree = first_tree()
        state = state_of(tree)
        self.assertEqual((tree + ("d", "e")).text(), "[a (b c) d e]")
        self.assertEqual((tree + ("a", "b")).text(), "([a b c d] e)")
        self.assertEqual((tree | Tree(list("abcde"), [("d", "e")])).text(), "[a (b c) d e]")
        self.assertEqual((tree & Tree(list("abcde"), [("b", "c")])).text(), "(a (b c) d e)")
        self.assertEqual(state_of(tree), state)


class WalkTest(unittest.TestCase):
    def test_broken_off_and_within_one_another(self):
        tree = Tree(TWELVE, [tuple(TWELVE[:many]) for many in range(2, 12)])
        walk = list(tree.walk())
        self.assertEqual(len(walk), 11)
        for many in range(11):
            asked = tree.walk()
            self.assertEqual([next(asked) for _ in range(many)], walk[:many])
        pairs = [(one, other) for one in tree.walk() for other in tree.walk()]
        self.assertEqual(pairs, list(itertools.product(walk, walk)))
        asked = tree.walk()
        next(asked)
        inner = list(tree.walk())
        self.assertEqual((inner, [walk[0], *asked]), (walk, walk))

    def test_rows_and_loose_nodes_within_one_another(self):
        tree = Tree.read("[(a b) ((c d e) [f g h]) i]")
        self.assertEqual(list(tree.walk()), [
            (0, "row", tuple("abcdefghi")), (1, "loose", ("a", "b")), (1, "loose", tuple("cdefgh")),
            (2, "loose", ("c", "d", "e")), (2, "row", ("f", "g", "h")),
        ])


if __name__ == "__main__":
    unittest.main()
