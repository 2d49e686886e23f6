import itertools
import unittest

from plain import MARKS, TWELVE, Draws, all_lots, check_raises, drawn_case, more_values, plain_keeps
from threeorders.books import Book
from threeorders.counting import all_orders
from threeorders.errors import CannotStand, Clash, InvalidLot, Same, UnknownFind
from threeorders.surely import (
    may_before, may_between, may_together, reasons, surely_before, surely_between, surely_together,
)
from threeorders.trees import Tree
from threeorders.webs import Web, web_of


def stands_between(order, x, z, y):
    return min(order.index(x), order.index(y)) < order.index(z) < max(order.index(x), order.index(y))


def plain_reason(name, lot, block, fitting):
    if name not in block:
        return ("block", block)
    places = [(order.index(name), [order.index(other) for other in lot]) for order in fitting]
    if all(place < min(others) for place, others in places):
        return ("ahead",)
    if all(place > max(others) for place, others in places):
        return ("behind",)
    return None


class SmallWebsTest(unittest.TestCase):
    def test_against_all_orders(self):
        draws = Draws(1301)
        self.told = {}
        for _ in range(250):
            finds, words, facts, _, fitting = drawn_case(draws, 5)
            if fitting:
                web = web_of(Book(finds, words), facts)
                self.check_befores(web, finds, fitting)
                self.check_betweens(web, finds, fitting)
                self.check_lots(web, finds, fitting)
        self.assertEqual(sorted(self.told), ["ahead", "behind", "block", "none"])
        self.assertTrue(min(self.told.values()) > 20, self.told)

    def check_befores(self, web, finds, fitting):
        for x, y in itertools.permutations(finds, 2):
            said = [order.index(x) < order.index(y) for order in fitting]
            self.assertIs(surely_before(web, x, y), all(said))
            self.assertIs(may_before(web, x, y), any(said))

    def check_betweens(self, web, finds, fitting):
        for x, z, y in itertools.permutations(finds, 3):
            said = [stands_between(order, x, z, y) for order in fitting]
            self.assertIs(surely_between(web, x, z, y), all(said))
            self.assertIs(may_between(web, x, z, y), any(said))

    def check_lots(self, web, finds, fitting):
        for lot in all_lots(finds):
            said = [plain_keeps(order, lot) for order in fitting]
            self.assertIs(surely_together(web, lot), all(said))
            self.assertIs(may_together(web, lot), any(said))
            found = reasons(web, lot)
            self.assertIs(found is not None, all(said))
            block = web.tree.least_block(lot)
            outside = [name for name in finds if name not in lot]
            plain = {name: plain_reason(name, lot, block, fitting) for name in outside}
            if found is None:
                self.assertIn(None, plain.values())
            else:
                self.assertEqual(found, plain)
                self.assertEqual(list(found), outside)
            for reason in (found or {"": ("none",)}).values():
                self.told[reason[0]] = self.told.get(reason[0], 0) + 1

    def test_answers_stay_when_facts_and_words_follow(self):
        draws = Draws(1303)
        many = 0
        for _ in range(250):
            finds, words, facts, _, fitting = drawn_case(draws, 5)
            if len(facts) < 2 or not fitting:
                continue
            webs = [web_of(Book(finds, words), facts[:more]) for more in range(len(facts) + 1)]
            webs[:0] = [web_of(Book(finds, words[:more])) for more in range(len(words))]
            for earlier, later in zip(webs, webs[1:]):
                for x, y in itertools.permutations(finds, 2):
                    many += surely_before(earlier, x, y)
                    self.assertTrue(surely_before(later, x, y) or not surely_before(earlier, x, y))
                    self.assertTrue(may_before(earlier, x, y) or not may_before(later, x, y))
                for lot in all_lots(finds):
                    self.assertTrue(surely_together(later, lot) or not surely_together(earlier, lot))
                    self.assertTrue(may_together(earlier, lot) or not may_together(later, lot))
        self.assertTrue(many > 100, many)


class ByHandTest(unittest.TestCase):
    def setUp(self):
        self.web = Web(Tree(["a", "b", "c"]), [("m", ("before", "a", "b")), ("n", ("before", "a", "c"))])

    def test_the_example(self):
        self.assertEqual(reasons(self.web, ("b", "c")), {"a": ("ahead",)})
        self.assertIs(("b", "c") in self.web.tree, False)
        self.assertIs(surely_together(self.web, ("b", "c")), True)
        self.assertIs(surely_together(self.web, ("a", "b")), False)
        self.assertIs(may_together(self.web, ("a", "b")), True)
        self.assertIsNone(reasons(self.web, ("a", "b")))
        self.assertEqual(reasons(self.web, ("a", "b", "c")), {})
        self.assertEqual(reasons(self.web, ("a",)), {"b": ("block", ("a",)), "c": ("block", ("a",))})

    def test_reasons_of_all_kinds(self):
        web = Web(Tree.read("(([a b c d] e) z)"), [("m", ("before", "a", "b"))])
        self.assertEqual(reasons(web, ("b", "c")), {name: ("block", ("b", "c")) for name in "adez"})
        web = Web(Tree.read("((a b c d e) z)"), [("m", ("first", "b")), ("n", ("before", "e", "a"))])
        check_raises(self, Clash(["m", "o"]), web.with_fact, "o", ("before", "a", "b"))
        web = Web(Tree.read("((a b c d) z)"), [("m", ("before", "b", "a")), ("n", ("before", "b", "c")),
                                               ("o", ("before", "a", "d")), ("p", ("before", "c", "d"))])
        told = reasons(web, ("a", "c"))
        self.assertEqual(told, {"b": ("ahead",), "d": ("behind",), "z": ("block", ("a", "b", "c", "d"))})
        self.assertEqual(list(told), ["b", "d", "z"])
        told.clear()
        self.assertEqual(len(reasons(web, ("a", "c"))), 3)

    def test_links_over_other_children_and_rows(self):
        web = Web(Tree.read("((a b) c (d e))"), [("m", ("before", "b", "c")), ("n", ("before", "c", "d"))])
        self.assertIs(surely_before(web, "a", "e"), True)
        self.assertIs(may_before(web, "e", "a"), False)
        self.assertIs(surely_before(web, "a", "b"), False)
        self.assertIs(surely_between(web, "a", "c", "e"), True)
        self.assertIs(surely_between(web, "e", "c", "a"), True)
        self.assertIs(may_between(web, "a", "b", "e"), True)
        self.assertIs(may_between(web, "a", "d", "c"), False)
        row = Web(Tree.read("[a b c d]"))
        self.assertIs(surely_between(row, "a", "b", "d"), True)
        self.assertIs(surely_before(row, "a", "b"), False)
        self.assertIs(surely_before(row.with_fact("m", ("before", "d", "c")), "b", "a"), True)

    def test_named_arguments(self):
        self.assertIs(surely_before(web=self.web, x="a", y="b"), True)
        self.assertIs(may_before(web=self.web, x="b", y="c"), True)
        self.assertIs(surely_between(web=self.web, x="a", z="b", y="c"), False)
        self.assertIs(may_between(web=self.web, x="a", z="b", y="c"), True)
        self.assertIs(surely_together(web=self.web, lot=("b", "c")), True)
        self.assertIs(may_together(web=self.web, lot=("a", "c")), True)
        self.assertEqual(reasons(web=self.web, lot=("b", "c")), {"a": ("ahead",)})

    def test_lots_that_cannot_lie_together(self):
        web = Web(Tree.read("[a b c]"))
        self.assertIs(may_together(web, ("a", "c")), False)
        with self.assertRaises(CannotStand):
            web.tree.with_lot(("a", "c"))
        web = Web(Tree(["a", "b", "c"]), [("m", ("before", "a", "b")), ("n", ("before", "b", "c"))])
        self.assertIs(may_together(web, ("a", "c")), False)
        self.assertIs(may_together(web, ("a", "b")), True)

    def test_one_find(self):
        web = Web(Tree(["a"]))
        self.assertEqual((surely_together(web, ("a",)), may_together(web, ("a",)), reasons(web, ("a",))), (True, True, {}))
        check_raises(self, Same("a"), surely_before, web, "a", "a")

    def test_twelve_finds(self):
        facts = [(MARKS[at], ("before", TWELVE[at], TWELVE[at + 1])) for at in range(11)]
        web = Web(Tree(TWELVE), facts)
        self.assertEqual(list(all_orders(web)), [tuple(TWELVE)])
        self.assertEqual(reasons(web, ("d", "e")), {n: ("ahead",) if n < "d" else ("behind",) for n in TWELVE if n not in "de"})
        self.assertIs(surely_before(web, "a", "l"), True)
        self.assertIs(may_together(web, ("a", "c")), False)
        self.assertIs(surely_between(web, "l", "e", "b"), True)


class WrongValuesTest(unittest.TestCase):
    def setUp(self):
        self.web = Web(Tree(["b", "c", "d", "e"]), [("m", ("before", "c", "b"))])

    def test_finds(self):
        for value in more_values():
            for function in (surely_before, may_before):
                check_raises(self, UnknownFind(value), function, self.web, value, None)
                check_raises(self, UnknownFind(value), function, self.web, value, "b")
                check_raises(self, UnknownFind(value), function, self.web, "b", value)
            for function in (surely_between, may_between):
                check_raises(self, UnknownFind(value), function, self.web, value, None, None)
                check_raises(self, UnknownFind(value), function, self.web, "b", value, ["b"])
                check_raises(self, UnknownFind(value), function, self.web, "b", "b", value)

    def test_the_same_find(self):
        for function in (surely_before, may_before):
            check_raises(self, Same("b"), function, self.web, "b", "b")
        for function in (surely_between, may_between):
            check_raises(self, Same("b"), function, self.web, "b", "b", "b")
            check_raises(self, Same("b"), function, self.web, "b", "b", "c")
            check_raises(self, Same("b"), function, self.web, "b", "c", "b")
            check_raises(self, Same("c"), function, self.web, "b", "c", "c")

    def test_lots(self):
        for value in [*more_values(), ["b", "c"], ("c", "b"), ("b", "z"), ("b", "b")]:
            for function in (surely_together, may_together, reasons):
                check_raises(self, InvalidLot(0), function, self.web, value)


if __name__ == "__main__":
    unittest.main()
