import itertools
import unittest

from plain import (
    MARKS, TWELVE, Draws, all_lots, any_values, check_raises, drawn_case, more_values, plain_keeps, plain_orders,
)
from threeorders.books import Book, book_of
from threeorders.errors import InvalidNumber, NotABlock, NotFitting, OtherFinds
from threeorders.spans import kinds_at, relation_in, relations, span_in, spans_of
from threeorders.tables import Table
from threeorders.trees import Tree, tree_of
from threeorders.webs import Web, web_of
from wide import Ahead, drawn_web


def plain_span(order, lot):
    found = sorted(order.index(name) for name in lot)
    return found[0], found[-1]


def compared(one, other):
    return "earlier" if one < other else ("equal" if one == other else "later")


def plain_relation(order, one, other):
    (first, last), (start, end) = plain_span(order, one), plain_span(order, other)
    return compared(first, start), compared(last, end)


def drawn_table(draws, finds):
    """A table whose kinds are stretches of some order, mostly."""
    order = draws.order(finds)
    lots = []
    for _ in range(draws.below(6)):
        low = draws.below(len(order))
        lots.append(order[low:low + 1 + draws.below(len(order) - low)] if draws.below(3) else draws.lot(finds))
    return Table([(name, [MARKS[at] for at, lot in enumerate(lots) if name in lot]) for name in finds])


class OneOrderTest(unittest.TestCase):
    def test_spans_and_relations_counted_by_hand(self):
        order = ("c", "a", "e", "b", "d")
        self.assertEqual(span_in(order, ("a", "b", "e")), (1, 3))
        self.assertEqual(span_in(order, ("c",)), (0, 0))
        self.assertEqual(span_in(order, ("a", "b", "c", "d", "e")), (0, 4))
        self.assertEqual(relation_in(order, ("a", "c"), ("b", "d")), ("earlier", "earlier"))
        self.assertEqual(relation_in(order, ("b", "e"), ("a", "e")), ("later", "later"))
        self.assertEqual(relation_in(order, ("a", "b", "e"), ("a", "e")), ("equal", "later"))
        self.assertEqual(relation_in(order, ("a", "b", "e"), ("e",)), ("earlier", "later"))
        self.assertEqual(relation_in(order, ("a",), ("a", "c")), ("later", "equal"))
        self.assertEqual(relation_in(order, ("d",), ("d",)), ("equal", "equal"))

    def test_all_lots_of_some_orders(self):
        draws = Draws(1701)
        for finds in ("a", "ab", "abcde"):
            order = draws.order(list(finds))
            for one, other in itertools.product(all_lots(finds), repeat=2):
                if not plain_keeps(order, one):
                    check_raises(self, NotFitting(), span_in, order, one)
                else:
                    self.assertEqual(span_in(order, one), plain_span(order, one))
                if plain_keeps(order, one) and plain_keeps(order, other):
                    self.assertEqual(relation_in(order, one, other), plain_relation(order, one, other))
                else:
                    check_raises(self, NotFitting(), relation_in, order, one, other)

    def test_named_arguments(self):
        self.assertEqual(span_in(lot=("a",), order=("b", "a")), (1, 1))
        self.assertEqual(relation_in(other=("b",), one=("a",), order=("b", "a")), ("later", "later"))


class TablesTest(unittest.TestCase):
    def setUp(self):
        self.table = Table([("a", ["urn", "cup"]), ("b", ["urn"]), ("c", []), ("d", ["cup"])])

    def test_spans_of_kinds(self):
        found = spans_of(self.table, ("c", "b", "a", "d"))
        self.assertEqual(found, {"cup": (2, 3), "urn": (1, 2)})
        self.assertEqual(list(found), ["cup", "urn"])
        self.assertEqual(spans_of(order=("d", "a", "b", "c"), table=self.table), {"cup": (0, 1), "urn": (1, 2)})
        self.assertEqual(spans_of(Table([("a", [])]), ("a",)), {})
        found.clear()
        self.assertEqual(len(spans_of(self.table, ("c", "b", "a", "d"))), 2)

    def test_orders_that_do_not_fit(self):
        for value in [*more_values(), ("a", "b", "c", "d"), ["c", "b", "a", "d"], ("c", "b", "a"), ("c", "b", "a", "e"),
                      ("c", "b", "a", "d", "d"), "cbad"]:
            check_raises(self, NotFitting(), spans_of, self.table, value)
        check_raises(self, NotFitting(), spans_of, Table([("a", ["k"]), ("b", []), ("c", ["k"])]), ("a", "b", "c"))

    def test_drawn_tables(self):
        draws = Draws(1703)
        met = 0
        for _ in range(80):
            finds = TWELVE[:1 + draws.below(6)]
            table = drawn_table(draws, finds)
            lots = {kind: table.lot_of_kind(kind) for kind in table.kinds()}
            for order in plain_orders(finds, lots.values()):
                found = spans_of(table, order)
                self.assertEqual(found, {kind: plain_span(order, lot) for kind, lot in lots.items()})
                self.assertEqual(list(found), table.kinds())
                for one, other in itertools.combinations(found, 2):
                    share = found[one][0] <= found[other][1] and found[other][0] <= found[one][1]
                    self.assertIs(share, bool(set(lots[one]) & set(lots[other])))
                    met += share
        self.assertTrue(met > 50, met)


class RelationsTest(unittest.TestCase):
    def test_against_all_orders(self):
        draws = Draws(1707)
        told = {}
        for _ in range(120):
            finds, words, facts, _, fitting = drawn_case(draws, 5)
            if not fitting:
                continue
            web = web_of(Book(finds, words), facts)
            for one, other in itertools.product(web.tree.blocks(), repeat=2):
                found = relations(web, one, other)
                self.assertEqual(list(found), sorted({plain_relation(order, one, other) for order in fitting}))
                for relation, order in found.items():
                    self.assertIn(order, fitting)
                    self.assertEqual(plain_relation(order, one, other), relation)
                    told[relation] = told.get(relation, 0) + 1
        self.assertEqual(len(told), 9, told)
        self.assertTrue(min(told.values()) > 20, told)

    def test_wide_webs(self):
        draws = Draws(1709)
        for at in range(20):
            web = drawn_web(draws, finds=TWELVE[:8 + 4 * (at & 1)])
            blocks = web.tree.blocks()
            ahead = None if at & 1 else Ahead(web)
            for _ in range(12):
                one, other = blocks[draws.below(len(blocks))], blocks[draws.below(len(blocks))]
                found, turned = relations(web, one, other), relations(web, other, one)
                words = {"earlier": "later", "equal": "equal", "later": "earlier"}
                self.assertEqual(sorted((words[a], words[b]) for a, b in found), list(turned))
                spans = ahead.spans(one, other) if ahead else []
                for a, b, c, d in spans:
                    self.assertIn((compared(a, c), compared(b, d)), found)
                self.assertTrue(not spans or len({(compared(a, c), compared(b, d)) for a, b, c, d in spans}) == len(found))
                for relation, order in found.items():
                    self.assertTrue(web.fits(order))
                    self.assertEqual(relation_in(order, one, other), relation)

    def test_a_block_within_another_one(self):
        web = Web(Tree.read("((a b) c d)"))
        lots = ("a", "b", "c", "d"), ("a", "b")
        self.assertEqual(list(relations(web, *lots)),
                         [("earlier", "equal"), ("earlier", "later"), ("equal", "later")])
        self.assertEqual(list(relations(web, *lots[::-1])),
                         [("equal", "earlier"), ("later", "earlier"), ("later", "equal")])
        web = web.with_fact("m", ("before", "c", "b"))
        self.assertEqual(list(relations(web, *lots)), [("earlier", "equal"), ("earlier", "later")])
        web = web.with_fact("n", ("before", "a", "d"))
        self.assertEqual(relations(web, *lots), {("earlier", "later"): ("c", "a", "b", "d")})
        self.assertEqual(relations(other=("a",), one=("a",), web=web), {("equal", "equal"): ("c", "a", "b", "d")})
        row = Web(Tree.read("[a b c]"), [("m", ("first", "c"))])
        self.assertEqual(relations(row, ("a", "b"), ("b", "c")), {("later", "later"): ("c", "b", "a")})

    def test_thirty_facts(self):
        facts = [(MARKS[at], ("before", TWELVE[at % 10], "l")) for at in range(30)]
        web = Web(Tree(TWELVE, [("a", "b")]), facts)
        found = relations(web, tuple(TWELVE), ("a", "b"))
        self.assertEqual(list(found), [("earlier", "later"), ("equal", "later")])
        self.assertEqual(list(relations(web, ("a", "b"), ("l",))), [("earlier", "earlier")])
        self.assertEqual(list(relations(web, ("k",), ("l",))), [("earlier", "earlier"), ("later", "later")])

    def test_no_blocks(self):
        web = Web(Tree(["b", "c", "d"]))
        for value in [*more_values(), ("b", "c"), ["b"], ("c", "b"), ("b", "z"), "b"]:
            check_raises(self, NotABlock(value), relations, web, value, None)
            check_raises(self, NotABlock(value), relations, web, value, ("b",))
            check_raises(self, NotABlock(value), relations, web, ("b",), value)

    def test_what_is_returned_is_new(self):
        web = Web(Tree(["a", "b"]))
        relations(web, ("a",), ("b",)).clear()
        self.assertEqual(len(relations(web, ("a",), ("b",))), 2)


class KindsAtTest(unittest.TestCase):
    def test_against_all_orders(self):
        draws = Draws(1711)
        many = 0
        for _ in range(150):
            finds, words, facts, _, fitting = drawn_case(draws, 6)
            if not fitting:
                continue
            web, table = web_of(Book(finds, words), facts), drawn_table(draws, finds)
            for place in range(len(finds)):
                kinds = sorted({kind for order in fitting for kind in table.kinds_of(order[place])})
                self.assertEqual(kinds_at(web, table, place), kinds)
                many += kinds != table.kinds()
            check_raises(self, InvalidNumber(len(finds)), kinds_at, web, table, len(finds))
        self.assertTrue(many > 30, many)

    def test_a_table_of_its_own_web(self):
        table = Table([("a", ["k", "m"]), ("b", ["k"]), ("c", ["n"]), ("d", [])])
        web = Web(tree_of(book_of(table)), [("x", ("first", "c"))])
        self.assertEqual([kinds_at(web, table, place) for place in range(4)],
                         [["n"], ["k", "m"], ["k", "m"], ["k", "m"]])
        self.assertEqual(kinds_at(place=0, table=table, web=web), ["n"])
        kinds_at(web, table, 0).clear()
        self.assertEqual(kinds_at(web, table, 0), ["n"])

    def test_many_kinds_and_finds(self):
        table = Table([(name, MARKS[:10] if name == "f" else []) for name in TWELVE])
        web = Web(Tree(TWELVE), [("m", ("before", "f", "g"))])
        self.assertEqual([len(kinds_at(web, table, place)) for place in (0, 5, 10, 11)], [10, 10, 10, 0])
        one = Table([("a", ["k"])])
        self.assertEqual(kinds_at(Web(Tree(["a"])), one, 0), ["k"])
        check_raises(self, InvalidNumber(1), kinds_at, Web(Tree(["a"])), one, 1)

    def test_errors(self):
        web = Web(Tree(["a", "b"]))
        for finds in (["a"], ["a", "c"], ["a", "b", "c"]):
            check_raises(self, OtherFinds(), kinds_at, web, Table([(name, []) for name in finds]), None)
        table = Table([("b", ["k"]), ("a", [])])
        for value in any_values():
            if isinstance(value, bool) or value not in (0, 1):
                check_raises(self, InvalidNumber(value), kinds_at, web, table, value)
        for value in (2, -1, 10 ** 12, (0,), [1]):
            check_raises(self, InvalidNumber(value), kinds_at, web, table, value)


if __name__ == "__main__":
    unittest.main()
