import itertools
import math
import unittest

from plain import (
    TWELVE, Draws, all_lots, bar_in, check_raises, grown_lots, has_bar, is_bar, more_values, plain_blocks, plain_keeps,
    plain_orders,
)
from threeorders.errors import CannotStand, InvalidFind, InvalidLot, InvalidNumber, TooFew, TooMany, UnknownFind
from threeorders.names import is_name
from threeorders.rings import Ring, is_arc, is_ring_order, opened
from threeorders.three import three_orders
from threeorders.trees import Tree


def ring_orders(finds):
    finds = sorted(finds)
    return [(finds[0], *others) for others in itertools.permutations(finds[1:])]


def plain_arc(order, lot):
    """Whether the finds of a lot stand one behind another somewhere on the ring, begun anywhere."""
    many = len(order)
    doubled = order + order
    return any(set(doubled[at:at + len(lot)]) == set(lot) for at in range(many))


def plain_rings(finds, lots):
    return [order for order in ring_orders(finds) if all(plain_arc(order, lot) for lot in lots)]


def words_past(finds, lots, seam):
    words = [tuple(sorted(set(finds) - set(lot))) if seam in lot else lot for lot in lots]
    return [word for word in words if word]


def drawn_ring(draws):
    finds = TWELVE[:2 + max(draws.below(5), draws.below(5))]
    order = draws.order(finds)
    lots = []
    wild = draws.below(3)
    for _ in range(draws.below(12)):
        low = draws.below(len(finds))
        stretch = tuple(sorted((order + order)[low:low + 1 + draws.below(len(finds))]))
        lots.append(draws.lot(finds) if draws.below(3) < wild else stretch)
    return finds, lots


def state_of(ring):
    return (ring.finds(), ring.lots(), ring.arcs(), ring.many(), ring.order_at(0), ring.three_rings(), len(ring),
            repr(ring), [ring.tree_past(name).text() for name in ring.finds()])


class FunctionsTest(unittest.TestCase):
    def test_ring_orders(self):
        self.assertIs(is_ring_order(["c", "a", "b"], ("a", "c", "b")), True)
        self.assertIs(is_ring_order(finds=("b", "a"), value=("a", "b")), True)
        for value in [*more_values(), ("b", "c", "a"), ("a", "b"), ("a", "b", "c", "d"), ["a", "b", "c"],
                      ("a", "b", "b"), ("a", "b", "d")]:
            self.assertIs(is_ring_order(["a", "b", "c"], value), False)
        for many in range(2, 6):
            found = [order for order in itertools.permutations(TWELVE[:many]) if is_ring_order(TWELVE[:many], order)]
            self.assertEqual(found, ring_orders(TWELVE[:many]))

    def test_arcs(self):
        order = ("a", "d", "b", "c")
        for lot in [("a",), ("a", "d"), ("b", "d"), ("b", "c"), ("a", "c"), ("a", "b", "d"), ("a", "c", "d"),
                    ("b", "c", "d"), ("a", "b", "c"), ("a", "b", "c", "d")]:
            self.assertIs(is_arc(order, lot), True, lot)
        for lot in [("a", "b"), ("c", "d")]:
            self.assertIs(is_arc(lot=lot, order=order), False, lot)
        for many in range(2, 7):
            for order in ring_orders(TWELVE[:many]):
                for lot in all_lots(TWELVE[:many]):
                    self.assertIs(is_arc(order, lot), plain_arc(order, lot))

    def test_opened(self):
        order = ("a", "d", "b", "c")
        self.assertEqual([opened(order, name) for name in order],
                         [("d", "b", "c"), ("b", "c", "a"), ("c", "a", "d"), ("a", "d", "b")])
        self.assertEqual(opened(name="b", order=("a", "b")), ("a",))
        for value in more_values():
            if value != "a":
                check_raises(self, UnknownFind(value), opened, ("a", "c"), value)


class SmallRingsTest(unittest.TestCase):
    def test_against_all_ring_orders(self):
        draws = Draws(1009)
        many = [0, 0]
        for _ in range(400):
            finds, lots = drawn_ring(draws)
            fitting = plain_rings(finds, lots)
            many[bool(fitting)] += 1
            if fitting:
                self.check_ring(Ring(finds[::-1], lots), finds, lots, fitting)
            else:
                self.check_refused(finds, lots)
            for seam in finds:
                others = [name for name in finds if name != seam]
                self.assertIs(bool(fitting), bool(plain_orders(others, words_past(finds, lots, seam))))
        self.assertTrue(min(many) > 40, many)

    def check_ring(self, ring, finds, lots, fitting):
        self.assertEqual((ring.finds(), ring.lots(), repr(ring)), (finds, lots, f"Ring({len(finds)} finds)"))
        arcs = [lot for lot in all_lots(finds) if all(plain_arc(order, lot) for order in fitting)]
        self.assertEqual((ring.arcs(), len(ring)), (sorted(arcs), len(arcs)))
        for lot in all_lots(finds):
            self.assertIs(lot in ring, lot in arcs)
        self.assertEqual(ring.many(), len(fitting))
        self.assertEqual([ring.order_at(rank) for rank in range(len(fitting))], fitting)
        for order in ring_orders(finds):
            self.assertIs(ring.fits(order), order in fitting)
        three = ring.three_rings()
        self.assertTrue(isinstance(three, tuple) and len(three) == 3 and all(order in fitting for order in three))
        self.assertEqual(three, tuple((finds[0], *order) for order in three_orders(ring.tree_past(finds[0]))))
        self.assertEqual(sorted(arcs), sorted(lot for lot in all_lots(finds) if all(plain_arc(o, lot) for o in three)))
        for seam in finds:
            self.check_past(ring, seam, finds, lots, fitting)

    def check_past(self, ring, seam, finds, lots, fitting):
        tree = ring.tree_past(seam)
        others = [name for name in finds if name != seam]
        self.assertEqual(tree.finds(), others)
        self.assertEqual(set(tree.blocks()), {tuple(sorted(b)) for b in plain_blocks(others, words_past(finds, lots, seam))})
        cut = sorted(opened(order, seam) for order in fitting)
        self.assertEqual(cut, sorted(order for order in itertools.permutations(others) if tree.fits(order)))

    def check_refused(self, finds, lots):
        with self.assertRaises(CannotStand) as caught:
            Ring(finds, lots)
        bar = bar_in(caught.exception)
        self.assertEqual(list(bar), sorted(bar))
        self.assertTrue(is_bar(plain_blocks(finds[1:], words_past(finds, lots, finds[0])), bar))

    def test_equal_rings(self):
        draws = Draws(1013)
        rings = {}
        for _ in range(200):
            finds, lots = drawn_ring(draws)
            if plain_rings(finds, lots):
                rings.setdefault(len(finds), []).append((Ring(finds, lots), plain_rings(finds, lots)))
        for group in rings.values():
            for (one, here), (other, there) in itertools.product(group, group):
                self.assertIs(one == other, here == there)
                self.assertIs(one != other, here != there)
        self.assertIs(Ring(["a", "b"]) == Ring(["a", "c"]), False)
        for value in more_values():
            self.assertIs(Ring(["b", "c"]) == value, False)


class ByHandTest(unittest.TestCase):
    def test_the_example(self):
        ring = Ring(["a", "b", "c", "d"], [("a", "b"), ("b", "c")])
        self.assertEqual([ring.many(), len(ring), ring.order_at(1), ring.tree_past("a").text()],
                         [2, 13, ("a", "d", "c", "b"), "[b c d]"])
        self.assertEqual(ring.order_at(rank=0), ("a", "b", "c", "d"))
        self.assertEqual(ring.tree_past(name="b").text(), "[a d c]")
        self.assertIs(ring.fits(value=("a", "b", "c", "d")), True)
        self.assertEqual(ring, Ring(lots=[("b", "c"), ("c", "d")], finds=["d", "c", "b", "a"]))

    def test_two_finds(self):
        for ring in (Ring(["b", "a"]), Ring(("a", "b"), (("a",), ("a", "b"), ("b",)))):
            self.assertEqual((ring.arcs(), ring.many(), ring.order_at(0)), ([("a",), ("a", "b"), ("b",)], 1, ("a", "b")))
            self.assertEqual(ring.three_rings(), (("a", "b"),) * 3)
            self.assertEqual([ring.tree_past(name).text() for name in "ab"], ["b", "a"])
            self.assertEqual((len(ring), repr(ring)), (3, "Ring(2 finds)"))

    def test_twelve_finds(self):
        ring = Ring(TWELVE)
        self.assertEqual((ring.many(), len(ring)), (math.factorial(11), 25))
        self.assertEqual(ring.order_at(0), tuple(TWELVE))
        self.assertEqual(ring.order_at(math.factorial(11) - 1), ("a", *TWELVE[:0:-1]))
        self.assertEqual(ring.order_at(math.factorial(10)), ("a", "c", "b", *TWELVE[3:]))
        check_raises(self, InvalidNumber(math.factorial(11)), ring.order_at, math.factorial(11))
        pairs = [tuple(sorted((TWELVE[at], TWELVE[(at + 1) % 12]))) for at in range(12)]
        ring = Ring(TWELVE, pairs)
        self.assertEqual((ring.many(), len(ring)), (2, 133))
        self.assertEqual([ring.order_at(rank) for rank in (0, 1)], [tuple(TWELVE), ("a", *TWELVE[:0:-1])])
        with self.assertRaises(CannotStand):
            Ring(TWELVE, pairs + [("a", "c")])

    def test_forty_lots(self):
        lots = [(name,) for name in TWELVE[:10]] * 4
        self.assertEqual(Ring(TWELVE, lots).lots(), lots)
        self.assertEqual(Ring(TWELVE, lots), Ring(TWELVE))
        check_raises(self, TooMany(40), Ring, TWELVE, lots + [("a",)])

    def test_books_as_rings(self):
        draws = Draws(1019)
        for _ in range(30):
            lots = grown_lots(draws.growth(TWELVE[1:]))
            ring = Ring(TWELVE, lots)
            self.assertEqual(ring.tree_past("a"), Tree(TWELVE[1:], lots))
            self.assertEqual(len(ring), 2 * len(Tree(TWELVE[1:], lots)) + 1)
        for _ in range(100):
            finds, words = draws.book(5, 5)
            lots = [lot for _, lot in words]
            orders = plain_orders(finds, lots)
            if orders:
                ring = Ring(finds + ["zz"], lots)
                cut = [opened(order, "zz") for order in plain_rings(finds + ["zz"], lots)]
                self.assertEqual(sorted(cut), sorted(orders))
                self.assertEqual(ring.many(), len(orders))
                self.assertEqual(ring.tree_past("zz"), Tree(finds, lots))
                for lot in all_lots(finds):
                    self.assertIs(lot in ring, all(plain_keeps(order, lot) for order in orders))
            else:
                self.assertTrue(has_bar(plain_blocks(finds, lots)))
                with self.assertRaises(CannotStand):
                    Ring(finds + ["zz"], lots)

    def test_copies(self):
        finds, lots = list("dbca"), [("a", "b")]
        ring = Ring(finds, lots)
        state = state_of(ring)
        self.assertEqual((finds, lots), (list("dbca"), [("a", "b")]))
        finds.append("e")
        lots.append(("a", "c"))
        for answer in (ring.finds(), ring.lots(), ring.arcs()):
            answer.append("x")
            answer[0] = "y"
        self.assertEqual(state_of(ring), state)


class WrongValuesTest(unittest.TestCase):
    def test_finds(self):
        for value in more_values():
            if not isinstance(value, (list, tuple)) or len(value) == 0:
                check_raises(self, InvalidFind(-1), Ring, value, 1)
            if not is_name(value):
                check_raises(self, InvalidFind(0), Ring, [value], None)
                check_raises(self, InvalidFind(1), Ring, ["a", value, None], None)
        check_raises(self, TooMany(12), Ring, TWELVE + ["m"], None)
        check_raises(self, InvalidFind(1), Ring, ["a", "a"], None)
        check_raises(self, TooFew(2), Ring, ["a"], None)
        check_raises(self, TooFew(2), Ring, ("a",))

    def test_lots(self):
        for value in more_values():
            if not isinstance(value, (list, tuple)):
                check_raises(self, InvalidLot(-1), Ring, ["a", "b"], value)
            if value not in [("a",), ("a", "b")]:
                check_raises(self, InvalidLot(0), Ring, ["a", "b"], [value])
                check_raises(self, InvalidLot(2), Ring, ["a", "b"], (("a",), ("a", "b"), value, None))
        check_raises(self, TooMany(40), Ring, ["a", "b"], [None] * 41)
        barred = [("a", "b"), ("a", "c"), ("a", "d"), ("c", "e")]
        check_raises(self, InvalidLot(3), Ring, list("abcd"), barred)
        with self.assertRaises(CannotStand):
            Ring(list("abcd"), barred[:3])

    def test_answers(self):
        ring = Ring(["a", "b", "c", "d"], [("a", "b")])
        state = state_of(ring)
        for value in [*more_values(), 2, -1, 4, ring.many(), "0"]:
            if isinstance(value, bool) or not isinstance(value, int) or not 0 <= value < 4:
                check_raises(self, InvalidNumber(value), ring.order_at, value)
            if value != "a":
                check_raises(self, UnknownFind(value), ring.tree_past, value)
            self.assertIs(value in ring, value in ring.arcs())
            self.assertIs(ring.fits(value), False)
        self.assertEqual([ring.order_at(rank) for rank in range(4)], plain_rings("abcd", [("a", "b")]))
        for value in (("a", "c", "b", "d"), ("b", "a", "c", "d"), ["a", "b", "c", "d"], ("a", "b", "c")):
            self.assertIs(ring.fits(value), False)
        self.assertEqual(state_of(ring), state)


if __name__ == "__main__":
    unittest.main()
