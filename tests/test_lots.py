import itertools
import unittest

from plain import Draws, any_values
from threeorders.errors import InvalidLot
from threeorders.lots import are_apart, common, is_lot, is_lot_of, is_within, joined, lot_of, overlap, rest

FORTY = [one + other for one in "abcd" for other in "abcdefghij"]


def all_lots(finds):
    return [lot for many in range(1, len(finds) + 1) for lot in itertools.combinations(finds, many)]


class IsLotTest(unittest.TestCase):
    def test_lots(self):
        for value in (("a",), ("a", "b"), ("a", "aa", "ab", "b"), ("pot", "urn"), tuple(FORTY), tuple("abcdefghijklm")):
            self.assertIs(is_lot(value), True, value)

    def test_no_lots(self):
        wrong = [(), ("b", "a"), ("a", "a"), ("a", "c", "b"), ("a", "b", "b"), ("aa", "a"), ("A",), ("a", "B"), ("",),
                 ("abcdefg",), ("a", None), (None, "a"), ("a", 1), (1, 2), (True,), ("a", ("b",)), (("a",),),
                 ["a"], ["a", "b"], "a", "ab", None, ("a", ["b"]), tuple(FORTY[1:] + FORTY[:1]), tuple(FORTY + ["de"])]
        for value in wrong:
            self.assertIs(is_lot(value), False, repr(value))

    def test_any_values(self):
        for value in any_values():
            right = isinstance(value, tuple) and value in (("a",), ("a", "b"), ("never",))
            self.assertIs(is_lot(value), right, repr(value))
            known = right and value != ("never",)
            self.assertIs(is_lot_of(["b", "a"], value), known, repr(value))

    def test_lots_of_finds(self):
        self.assertIs(is_lot_of(["c", "a", "b"], ("a", "c")), True)
        self.assertIs(is_lot_of(("c", "a", "b"), ("a", "b", "c")), True)
        self.assertIs(is_lot_of(FORTY, tuple(FORTY)), True)
        self.assertIs(is_lot_of(FORTY[1:], tuple(FORTY)), False)
        self.assertIs(is_lot_of(["a", "b"], ("a", "c")), False)
        self.assertIs(is_lot_of(["a", "b"], ("c",)), False)
        self.assertIs(is_lot_of(["a", "b"], ("b", "a")), False)
        self.assertIs(is_lot_of(["a", "b"], ["a"]), False)
        self.assertIs(is_lot_of(["ab"], ("a",)), False)
        self.assertIs(is_lot_of([], ("a",)), False)

    def test_by_name(self):
        self.assertIs(is_lot(value=("a",)), True)
        self.assertIs(is_lot_of(value=("a",), finds=["a"]), True)


class LotOfTest(unittest.TestCase):
    def test_lots(self):
        self.assertEqual(lot_of(["b", "a", "b", "c", "a"]), ("a", "b", "c"))
        self.assertEqual(lot_of(("z",)), ("z",))
        self.assertEqual(lot_of(["b", "ab", "a"]), ("a", "ab", "b"))
        self.assertEqual(lot_of(FORTY[::-1] + FORTY), tuple(FORTY))
        self.assertEqual(lot_of(names=["b", "a"]), ("a", "b"))

    def test_what_is_no_list(self):
        for value in any_values():
            if not isinstance(value, (list, tuple)) or len(value) == 0:
                self.check(value, -1)
        self.check({}, -1)
        self.check("ab", -1)

    def test_the_first_wrong_item(self):
        for value in any_values():
            if not (isinstance(value, str) and value in ("a", "abcdef", "before")):
                self.check([value], 0)
                self.check(("b", "a", value, ""), 2)
                self.check(["b", "b", "a", value, None], 3)

    def check(self, value, at):
        with self.assertRaises(InvalidLot) as caught:
            lot_of(value)
        self.assertEqual(caught.exception.at, at, repr(value))

    def test_the_argument_stays(self):
        names = ["b", "a", "b"]
        lot_of(names)
        self.assertEqual(names, ["b", "a", "b"])


class TwoLotsTest(unittest.TestCase):
    def check(self, one, other):
        first, second = set(one), set(other)
        both = first & second
        self.assertIs(are_apart(one, other), not both)
        self.assertIs(overlap(one, other), bool(both) and bool(first - second) and bool(second - first))
        self.assertIs(is_within(one, other), first <= second)
        self.assertEqual(joined(one, other), tuple(sorted(first | second)))
        self.assertEqual(common(one, other), tuple(sorted(both)))
        self.assertEqual(rest(one, other), tuple(sorted(first - second)))

    def test_all_pairs_of_lots_of_four(self):
        lots = all_lots(["a", "b", "ba", "c"])
        for one in lots:
            for other in lots:
                self.check(one, other)

    def test_long_lots(self):
        draws = Draws(7)
        for _ in range(200):
            self.check(draws.lot(FORTY), draws.lot(FORTY))
        self.check(tuple(FORTY), tuple(FORTY))
        self.check(tuple(FORTY), ("ab",))
        self.check(tuple(FORTY[:20]), tuple(FORTY[20:]))
        self.check(tuple(FORTY[:21]), tuple(FORTY[20:]))

    def test_empty_rests_may_be_passed(self):
        self.assertEqual(rest(("a",), ("a", "b")), ())
        self.check((), ("a",))
        self.check(("a",), ())

    def test_by_name(self):
        one, other = ("a", "b"), ("b", "c", "d")
        self.assertIs(are_apart(other=other, one=one), False)
        self.assertIs(overlap(other=other, one=one), True)
        self.assertIs(is_within(other=("a", "b", "c"), one=one), True)
        self.assertEqual(joined(other=other, one=one), ("a", "b", "c", "d"))
        self.assertEqual(common(other=other, one=one), ("b",))
        self.assertEqual(rest(other=other, one=one), ("a",))
