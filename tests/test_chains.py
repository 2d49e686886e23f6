import itertools
import unittest

from plain import (
    MARKS, TWELVE, Draws, all_lots, bar_in, check_raises, drawn_case, grown_lots, grown_order, is_bar, more_values,
    plain_blocks, plain_case, plain_orders, plain_right,
)
from threeorders.books import Book
from threeorders.chains import derived
from threeorders.derivations import shortened, shows
from threeorders.errors import (
    CannotStand, Clash, DuplicateName, InvalidFact, InvalidStatement, NotShown, TooMany, UnknownFind,
)
from threeorders.facts import is_marked_fact
from threeorders.surely import surely_before
from threeorders.trees import Tree
from threeorders.webs import Web

NEVER = ("never",)


class ChainsTest(unittest.TestCase):
    def check_shown(self, book, facts, statement):
        entries = derived(book, facts, statement)
        self.assertIsInstance(entries, list)
        self.assertEqual(entries[-1][0], statement)
        for at, (_, rule, elders) in enumerate(entries):
            self.assertTrue(rule in ("word", "fact") or all(0 <= elder < at for elder in elders))
            self.assertTrue(plain_right(book.finds(), book.words(), facts, entries, at), (at, entries))
            self.assertTrue(at == len(entries) - 1 or self.is_needed(entries, at))
        self.assertIs(shows(book, facts, entries, statement), True)
        self.assertEqual(shortened(entries), entries)
        self.assertEqual(derived(book, facts, statement), entries)

    def is_needed(self, entries, at):
        return any(rule not in ("word", "fact") and at in elders for _, rule, elders in entries)


class SmallCasesTest(ChainsTest):
    def test_against_all_orders(self):
        draws = Draws(1409)
        self.many = {"before": 0, "lot": 0, "never": 0, "bar": 0}
        for at in range(300):
            finds, words, facts, _, fitting = drawn_case(draws, 5 if at % 4 else 6)
            self.check_case(Book(finds, words), facts, fitting)
        for _ in range(300):
            finds, words = draws.book(5, 8)
            if not plain_orders(finds, [lot for _, lot in words]):
                self.check_barred(Book(finds, words), draws.facts(finds, draws.below(3)))
        self.assertTrue(min(self.many.values()) > 30, self.many)

    def check_case(self, book, facts, fitting):
        finds = book.finds()
        if not fitting:
            self.many["never"] += 1
            self.check_shown(book, facts, NEVER)
            with self.assertRaises(Clash):
                derived(book, facts, ("lot", (finds[0],)))
            with self.assertRaises(Clash):
                derived(book, facts, ("before", finds[0], finds[-1]))
            return
        check_raises(self, NotShown(), derived, book, facts, NEVER)
        blocks = plain_blocks(finds, book.lots())
        for lot in all_lots(finds):
            self.check_statement(book, facts, ("lot", lot), frozenset(lot) in blocks)
        for x, y in itertools.product(finds, finds):
            self.check_statement(book, facts, ("before", x, y), all(o.index(x) < o.index(y) for o in fitting))

    def check_statement(self, book, facts, statement, holds):
        if holds:
            self.many[statement[0]] += 1
            self.check_shown(book, facts, statement)
        else:
            check_raises(self, NotShown(), derived, book, facts, statement)

    def check_barred(self, book, facts):
        self.many["bar"] += 1
        self.check_shown(book, facts, NEVER)
        blocks = plain_blocks(book.finds(), book.lots())
        for statement in (("lot", (book.finds()[0],)), ("before", book.finds()[0], book.finds()[0])):
            with self.assertRaises(CannotStand) as caught:
                derived(book, facts, statement)
            self.assertTrue(is_bar(blocks, bar_in(caught.exception)))


class TwelveFindsTest(ChainsTest):
    def test_grown_trees_with_many_facts(self):
        draws = Draws(1423)
        shown = 0
        for at in range(15):
            growth = draws.growth(TWELVE)
            order = grown_order(growth, draws)
            facts = self.facts_of(order, draws)
            book = Book(TWELVE, list(zip(MARKS, grown_lots(growth))))
            web = Web(Tree(TWELVE, book.lots()), facts)
            for x, y in itertools.permutations(TWELVE, 2):
                if surely_before(web, x, y):
                    shown += 1
                    self.check_shown(book, facts, ("before", x, y))
                elif draws.below(5) == 0:
                    check_raises(self, NotShown(), derived, book, facts, ("before", x, y))
            for lot in web.tree.blocks():
                self.check_shown(book, facts, ("lot", lot))
            self.check_turned(book, facts, web, order)
        self.assertTrue(shown > 300, shown)

    def facts_of(self, order, draws):
        facts = []
        for mark in MARKS[:draws.below(31)]:
            x, y = sorted([draws.below(12), draws.below(12)])
            if x < y:
                facts.append((mark, ("before", order[x], order[y])))
        return facts

    def check_turned(self, book, facts, web, order):
        more = ("zz", ("before", order[-1], order[0]))
        if len(facts) < 30 and not web.can_take(more[1]):
            self.check_shown(book, facts + [more], NEVER)

    def test_a_long_row(self):
        book = Book(TWELVE, [(MARKS[at], tuple(TWELVE[at:at + 2])) for at in range(11)])
        for x, y in itertools.combinations(TWELVE, 2):
            for u, v in (("a", "b"), ("k", "l"), ("c", "i"), ("a", "l")):
                self.check_shown(book, [("f", ("before", u, v))], ("before", x, y))
                self.check_shown(book, [("f", ("before", v, u))], ("before", y, x))

    def test_a_long_chain(self):
        facts = [(MARKS[at], ("before", TWELVE[at], TWELVE[at + 1])) for at in range(11)]
        self.check_shown(Book(TWELVE), facts, ("before", "a", "l"))
        self.check_shown(Book(TWELVE), facts + [("zz", ("before", "l", "a"))], NEVER)
        self.assertEqual(len(derived(Book(TWELVE), facts, ("before", "a", "l"))), 21)

    def test_thirty_facts(self):
        facts = [(mark, ("before", "a", "b")) for mark in MARKS[:30]]
        self.check_shown(Book(["a", "b"]), facts, ("before", "a", "b"))
        check_raises(self, TooMany(30), derived, Book(["a", "b"]), facts + [None], None)


class ByHandTest(ChainsTest):
    def setUp(self):
        self.book = Book(["a", "b", "c", "d"], [("m", ("a", "b", "c")), ("n", ("b", "c", "d"))])

    def test_across_a_row(self):
        facts = [("f", ("before", "a", "d"))]
        self.check_shown(self.book, facts, ("before", "b", "d"))
        self.check_shown(self.book, facts, ("before", "a", "c"))
        check_raises(self, NotShown(), derived, self.book, facts, ("before", "b", "c"))
        check_raises(self, NotShown(), derived, self.book, facts, ("before", "d", "a"))
        self.assertEqual(derived(self.book, facts, ("before", "a", "d")), [(("before", "a", "d"), "fact", ("f",))])

    def test_first_and_last(self):
        book = Book(["a", "b", "c"])
        self.check_shown(book, [("f", ("first", "b"))], ("before", "b", "c"))
        self.check_shown(book, [("f", ("last", "b"))], ("before", "a", "b"))
        self.check_shown(book, [("f", ("first", "a")), ("g", ("last", "a"))], NEVER)
        self.check_shown(Book(["a"]), [("f", ("first", "a")), ("g", ("last", "a"))], ("lot", ("a",)))
        check_raises(self, NotShown(), derived, Book(["a"]), [("f", ("first", "a"))], ("before", "a", "a"))

    def test_never(self):
        self.check_shown(Book(["a", "b"]), [("f", ("before", "b", "b"))], NEVER)
        self.assertEqual(derived(Book(["a", "b"]), [("f", ("before", "b", "b"))], NEVER),
                         [(("before", "b", "b"), "fact", ("f",)), (NEVER, "self", (0,))])
        self.check_shown(self.book, [("f", ("before", "a", "c")), ("g", ("before", "d", "b"))], NEVER)
        book = Book(["a", "b", "c"], [("m", ("a", "b")), ("n", ("b", "c")), ("o", ("a", "c"))])
        self.check_shown(book, [], NEVER)
        self.check_shown(book, [("f", ("before", "b", "b"))], NEVER)
        self.check_shown(Book(["a"]), [("f", ("before", "a", "a"))], NEVER)

    def test_lots(self):
        for lot in (("a",), ("b", "c"), ("a", "b", "c"), ("a", "b", "c", "d"), ("d",)):
            self.check_shown(self.book, [], ("lot", lot))
        check_raises(self, NotShown(), derived, self.book, [], ("lot", ("a", "b")))
        # A lot that is surely together by facts alone is no block, and cannot be derived.
        book = Book(["a", "b", "c"])
        check_raises(self, NotShown(), derived, book, [("f", ("first", "a"))], ("lot", ("b", "c")))

    def test_named_arguments(self):
        entries = derived(statement=("lot", ("b", "c")), facts=(), book=self.book)
        self.assertEqual(entries, derived(self.book, [], ("lot", ("b", "c"))))
        first = list(entries)
        entries.clear()
        self.assertEqual(derived(self.book, [], ("lot", ("b", "c"))), first)


class WrongValuesTest(unittest.TestCase):
    def setUp(self):
        self.book = Book(["b", "c"], [("m", ("b", "c"))])
        self.barred = Book(["b", "c", "d"], [("m", ("b", "c")), ("n", ("c", "d")), ("o", ("b", "d"))])

    def test_facts(self):
        for book in (self.book, self.barred):
            for value in more_values():
                if not isinstance(value, (list, tuple)):
                    check_raises(self, InvalidFact(-1), derived, book, value, None)
                if not is_marked_fact(value):
                    check_raises(self, InvalidFact(1), derived, book, [("m", ("first", "z")), value], None)
            check_raises(self, TooMany(30), derived, book, [None] * 31, None)
            twice = [("m", ("first", "z")), ("m", ("first", "b"))]
            check_raises(self, DuplicateName("m"), derived, book, twice, None)
            check_raises(self, UnknownFind("z"), derived, book, twice[:1], None)
            check_raises(self, UnknownFind("z"), derived, book, twice[:1], NEVER)

    def test_statements(self):
        clash = [("f", ("before", "b", "b"))]
        for book, facts in ((self.book, []), (self.book, clash), (self.barred, [])):
            for value in [*more_values(), ("lot", ("b", "z")), ("lot", ("c", "b")), ("lot", ["b"]), ("before", "b", "z"),
                          ("before", "z", "b"), ["never"], ("never", "b"), ("lot",), ("first", "b"), ("lot", ()), "never"]:
                if value != NEVER:
                    check_raises(self, InvalidStatement(), derived, book, facts, value)

    def test_what_comes_first(self):
        clash = [("f", ("before", "b", "b"))]
        bar = CannotStand(("b",), ("c",), ("d",))
        for statement in (("lot", ("b", "c", "d")), ("before", "b", "b"), ("before", "c", "d"), ("lot", ("b",))):
            check_raises(self, bar, derived, self.barred, clash, statement)
        for statement in (("lot", ("b",)), ("before", "b", "c"), ("before", "b", "b")):
            check_raises(self, Clash(["f"]), derived, self.book, clash, statement)
        check_raises(self, NotShown(), derived, self.book, [], NEVER)
        check_raises(self, NotShown(), derived, self.book, [], ("before", "c", "c"))
        check_raises(self, NotShown(), derived, self.book, [], ("before", "b", "c"))
        self.assertTrue(plain_case(plain_orders(["b", "c"], [("b", "c")]), []))


if __name__ == "__main__":
    unittest.main()
