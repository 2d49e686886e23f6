import unittest

from plain import (
    MARKS, TWELVE, Draws, PlainTree, check_raises, drawn_case, more_values, orders_of, plain_case, plain_fits,
)
from threeorders.books import Book
from threeorders.errors import (
    CannotStand, Clash, DuplicateName, InvalidFact, TooMany, UnknownFind, UnknownName, UnknownNode,
)
from threeorders.facts import is_fact, is_marked_fact
from threeorders.trees import Tree, tree_of
from threeorders.webs import Web, web_of


def state_of(web):
    nodes = web.tree.nodes()
    return (web.tree.text(), web.facts(), len(web), repr(web), [web.links(node) for node in nodes],
            [web.direction(node) for node in nodes], [web.ways(node) for node in nodes])


def plain_clash(orders, facts):
    for marked in list(facts):
        fewer = [other for other in facts if other != marked]
        if not plain_case(orders, fewer):
            facts = fewer
    return [mark for mark, _ in facts]


def befores(finds, facts):
    pairs = []
    for _, fact in facts:
        if fact[0] == "before":
            pairs.append(fact[1:])
        else:
            others = [name for name in finds if name != fact[1]]
            pairs += [(fact[1], name) if fact[0] == "first" else (name, fact[1]) for name in others]
    return pairs


def plain_links(plain, node, pairs):
    """The links of a node by [24]."""
    children = plain.children(node)
    links = set()
    for x, y in pairs:
        here = [number for name in (x, y) for number, child in enumerate(children, 1) if name in child]
        if len(here) == 2 and here[0] != here[1]:
            links.add(tuple(here))
    return sorted(links)


class SmallWebsTest(unittest.TestCase):
    def test_against_all_orders(self):
        draws = Draws(1103)
        many = [0, 0]
        for at in range(400):
            finds, words, facts, orders, fitting = drawn_case(draws, 6 if at < 60 else 5)
            book = Book(finds, words)
            many[bool(fitting)] += 1
            if fitting:
                web = web_of(book, facts)
                self.assertEqual(web, Web(tree_of(book), facts))
                self.check_web(web, finds, facts, fitting)
                self.check_nodes(web, PlainTree(finds, [lot for _, lot in words]), facts, fitting)
                self.check_facts(web, finds, facts, orders, fitting)
            else:
                clash = plain_clash(orders, facts)
                check_raises(self, Clash(clash), web_of, book, facts)
                check_raises(self, Clash(clash), Web, tree_of(book), tuple(facts))
                for mark in clash:
                    self.assertTrue(plain_case(orders, [m for m in facts if m[0] in clash and m[0] != mark]))
        self.assertTrue(min(many) > 100, many)

    def check_web(self, web, finds, facts, fitting):
        self.assertEqual((web.facts(), len(web), repr(web)), (facts, len(facts), f"Web({len(facts)} facts)"))
        self.assertIs(bool(web), True)
        for order in orders_of(tuple(finds)):
            self.assertIs(web.fits(order), order in fitting)

    def check_nodes(self, web, plain, facts, fitting):
        product = 1
        for node in plain.nodes:
            lot = tuple(sorted(node))
            children = plain.children(node)
            links = plain_links(plain, node, befores(plain.finds, facts))
            self.assertEqual(web.links(lot), links)
            ways = {tuple(sorted(children, key=lambda child: order.index(child[0]))) for order in fitting}
            self.assertEqual(web.ways(lot), len(ways))
            product *= len(ways)
            if plain.shape(node) == "loose":
                self.assertEqual(web.direction(lot), "loose")
            else:
                direction = "free" if len(ways) == 2 else "ahead" if tuple(children) in ways else "back"
                self.assertEqual(web.direction(lot), direction)
        self.assertEqual(product, len(fitting))

    def check_facts(self, web, finds, facts, orders, fitting):
        state = state_of(web)
        for x in finds:
            for fact in [("first", x), ("last", x)] + [("before", x, y) for y in finds]:
                fits = any(plain_fits(order, fact) for order in fitting)
                self.assertIs(web.can_take(fact), fits)
                if fits:
                    self.assertEqual(web.with_fact("zz", fact), Web(web.tree, facts + [("zz", fact)]))
                    self.assertEqual(web + ("zz", fact), web.with_fact(mark="zz", fact=fact))
                    self.assertEqual((web + ("zz", fact)).without("zz"), web)
                else:
                    clash = plain_clash(orders, facts + [("zz", fact)])
                    check_raises(self, Clash(clash), web.with_fact, "zz", fact)
                    check_raises(self, Clash(clash), lambda: web + ("zz", fact))
        for mark, _ in facts:
            self.assertEqual(web.without(mark).facts(), [marked for marked in facts if marked[0] != mark])
        self.assertEqual(state_of(web), state)

    def test_several_facts_at_once(self):
        draws = Draws(1109)
        many = [0, 0]
        for _ in range(300):
            finds, words, facts, _, fitting = drawn_case(draws)
            if fitting:
                web = web_of(Book(finds, words), facts)
                more = draws.facts(finds, draws.below(5))
                fits = bool(plain_case(fitting, more))
                many[fits] += 1
                self.assertIs(web.can_take(*[fact for _, fact in more]), fits)
        self.assertTrue(min(many) > 30, many)


class ByHandTest(unittest.TestCase):
    def setUp(self):
        self.tree = Tree.read("([a (b c) d] e)")
        self.web = Web(self.tree, [("m", ("before", "d", "b")), ("n", ("last", "e"))])

    def test_links_directions_and_ways(self):
        row, loose, root = tuple("abcd"), ("b", "c"), tuple("abcde")
        self.assertEqual([self.web.links(node) for node in (root, row, loose)], [[(1, 2)], [(3, 2)], []])
        self.assertEqual([self.web.direction(node) for node in (root, row, loose)], ["loose", "back", "loose"])
        self.assertEqual([self.web.ways(node) for node in (root, row, loose)], [1, 1, 2])
        ahead = Web(self.tree, [("m", ("before", "a", "c"))])
        self.assertEqual((ahead.direction(row), ahead.links(row), ahead.ways(root)), ("ahead", [(1, 2)], 2))
        self.assertEqual((Web(self.tree).direction(row), Web(self.tree).ways(row)), ("free", 2))
        self.assertEqual(self.web.links(lot=row), [(3, 2)])
        self.assertEqual(self.web.direction(lot=row), "back")
        self.assertEqual(self.web.ways(lot=loose), 2)

    def test_tree_and_named_arguments(self):
        self.assertEqual(self.web.tree, self.tree)
        self.assertEqual(Web(facts=self.web.facts(), tree=self.tree), self.web)
        book = Book(list("abcde"), [("m", tuple("abc")), ("n", tuple("bcd"))])
        self.assertEqual(web_of(facts=self.web.facts(), book=book), self.web)
        self.assertEqual(web_of(book), Web(self.tree))
        self.assertEqual(web_of(book).facts(), [])
        self.assertIs(self.web.fits(value=tuple("dbcae")), True)
        self.assertIs(self.web.fits(tuple("abcde")), False)
        self.assertEqual(self.web.without(mark="m").facts(), [("n", ("last", "e"))])

    def test_empty_webs_are_true(self):
        self.assertIs(bool(Web(self.tree)), True)
        self.assertEqual((len(Web(self.tree)), repr(Web(self.tree))), (0, "Web(0 facts)"))
        self.assertEqual(repr(self.web), "Web(2 facts)")

    def test_one_find(self):
        for facts in ([], [("m", ("first", "a"))], [("m", ("last", "a")), ("n", ("first", "a"))]):
            web = Web(Tree(["a"]), facts)
            self.assertEqual(len(web), len(facts))
            self.assertIs(web.fits(("a",)), True)
            self.assertIs(web.can_take(("first", "a"), ("last", "a")), True)
            self.assertIs(web.can_take(("before", "a", "a")), False)
            check_raises(self, UnknownNode(("a",)), web.links, ("a",))
        check_raises(self, Clash(["m"]), Web, Tree(["a"]), [("m", ("before", "a", "a"))])

    def test_clashes(self):
        tree = Tree(["a", "b", "c"])
        facts = [("m", ("before", "a", "b")), ("n", ("before", "b", "c")), ("o", ("before", "c", "a"))]
        check_raises(self, Clash(["m", "n", "o"]), Web, tree, facts)
        check_raises(self, Clash(["o", "n", "m"]), Web, tree, facts[::-1])
        check_raises(self, Clash(["o"]), Web, tree, facts[:2] + [("o", ("before", "b", "b"))])
        check_raises(self, Clash(["p"]), Web, tree, [*facts, ("p", ("before", "b", "b"))])
        check_raises(self, Clash(["p", "o"]), Web, tree, [("p", ("before", "a", "c")), *facts[1:]])
        check_raises(self, Clash(["y", "z"]), Web, tree, [("x", ("first", "c")), ("y", ("first", "a")), ("z", ("last", "a"))])
        row = Tree.read("[a b c]")
        told = [("x", ("before", "a", "b")), ("y", ("before", "a", "c")), ("z", ("before", "c", "b"))]
        check_raises(self, Clash(["y", "z"]), Web, row, told)
        check_raises(self, Clash(["m"]), Web, row, [("m", ("first", "b"))])

    def test_a_loose_node_of_twelve_children(self):
        web = Web(Tree(TWELVE))
        self.assertEqual(web.ways(tuple(TWELVE)), 479001600)
        facts = [(MARKS[at], ("before", TWELVE[at], TWELVE[at + 1])) for at in range(11)]
        self.assertEqual(Web(Tree(TWELVE), facts).ways(tuple(TWELVE)), 1)
        self.assertEqual(Web(Tree(TWELVE), facts[::2]).ways(tuple(TWELVE)), 479001600 // 64)
        self.assertEqual(Web(Tree(TWELVE), facts[:3]).ways(tuple(TWELVE)), 479001600 // 24)
        self.assertEqual(Web(Tree(TWELVE), [("m", ("first", "f"))]).ways(tuple(TWELVE)), 39916800)
        check_raises(self, Clash([mark for mark, _ in facts] + ["zz"]), Web, Tree(TWELVE),
                     facts + [("zz", ("before", "l", "a"))])

    def test_equal_webs(self):
        one = Web(self.tree, [("m", ("before", "a", "b")), ("n", ("before", "a", "c"))])
        self.assertIs(one == Web(Tree(list("edcba"), self.tree.blocks()), tuple(one.facts())), True)
        self.assertIs(one == Web(self.tree, one.facts()[::-1]), False)
        self.assertIs(one == Web(self.tree, one.facts()[:1]), False)
        self.assertIs(one == Web(Tree(list("abcde")), one.facts()), False)
        self.assertIs(one != one.without("n").with_fact("n", ("before", "a", "c")), False)
        for value in more_values():
            self.assertIs(one == value, False)


class FirstAndLastTest(unittest.TestCase):
    def test_told_as_befores(self):
        draws = Draws(1117)
        for _ in range(100):
            finds, words, facts, _, fitting = drawn_case(draws)
            told = [pair for marked in facts for pair in befores(finds, [marked])]
            facts_told = [(MARKS[at], ("before", *pair)) for at, pair in enumerate(told)]
            if fitting and len(told) <= 30:
                one, other = web_of(Book(finds, words), facts), web_of(Book(finds, words), facts_told)
                self.assertEqual(state_of(one)[4:], state_of(other)[4:])


class WrongValuesTest(unittest.TestCase):
    def check(self, error, facts):
        book = Book(["a", "b"], [("m", ("a", "b"))])
        check_raises(self, error, Web, tree_of(book), facts)
        check_raises(self, error, web_of, book, facts)

    def test_facts(self):
        for value in more_values():
            if not isinstance(value, (list, tuple)):
                self.check(InvalidFact(-1), value)
            if not is_marked_fact(value):
                self.check(InvalidFact(0), [value])
                self.check(InvalidFact(1), (("m", ("before", "z", "z")), value, None))
        self.check(TooMany(30), [None] * 31)
        self.check(DuplicateName("m"), [("m", ("first", "z")), ("n", ("first", "a")), ("m", ("first", "y"))])
        self.check(UnknownFind("z"), [("m", ("before", "a", "a")), ("n", ("before", "z", "y"))])
        self.check(UnknownFind("y"), [("m", ("before", "a", "y")), ("n", ("before", "z", "x"))])

    def test_thirty_facts(self):
        facts = [(mark, ("before", "a", "b")) for mark in MARKS[:30]]
        web = Web(Tree(["a", "b"]), facts)
        self.assertEqual((len(web), web.ways(("a", "b"))), (30, 1))
        check_raises(self, TooMany(30), Web, Tree(["a", "b"]), facts + [("zz", None)])
        check_raises(self, TooMany(30), web.with_fact, None, None)
        check_raises(self, TooMany(30), lambda: web + None)
        self.assertIs(web.can_take(*[("before", "a", "b")] * 40), True)
        self.assertIs(web.can_take(*[("before", "a", "b")] * 40, ("before", "b", "a")), False)

    def test_books_that_do_not_stand(self):
        book = Book(["a", "b", "c"], [("m", ("a", "b")), ("n", ("b", "c")), ("o", ("a", "c"))])
        check_raises(self, CannotStand(("a",), ("b",), ("c",)), web_of, book)
        check_raises(self, CannotStand(("a",), ("b",), ("c",)), web_of, book, [("m", ("before", "a", "a"))])
        check_raises(self, UnknownFind("z"), web_of, book, [("m", ("before", "a", "z"))])
        check_raises(self, InvalidFact(-1), web_of, book, None)

    def test_one_fact_more(self):
        web = Web(Tree(["a", "b"]), [("m", ("before", "a", "b"))])
        state = state_of(web)
        for value in more_values():
            if not is_marked_fact(value):
                check_raises(self, InvalidFact(1), lambda: web + value)
            if not is_fact(value):
                check_raises(self, InvalidFact(1), web.with_fact, "n", value)
                check_raises(self, InvalidFact(0), web.can_take, value)
                check_raises(self, InvalidFact(1), web.can_take, ("first", "z"), value, None)
            if not isinstance(value, str) or value not in ("a", "abcdef", "before"):
                check_raises(self, InvalidFact(1), web.with_fact, value, ("first", "a"))
            check_raises(self, UnknownName(value), web.without, value)
        check_raises(self, DuplicateName("m"), web.with_fact, "m", ("first", "z"))
        check_raises(self, UnknownFind("z"), web.with_fact, "n", ("before", "z", "y"))
        check_raises(self, UnknownFind("z"), web.can_take, ("first", "a"), ("before", "a", "z"), ("first", "y"))
        check_raises(self, UnknownFind("z"), web.can_take, ("before", "b", "a"), ("before", "z", "y"))
        check_raises(self, Clash(["m", "n"]), web.with_fact, "n", ("first", "b"))
        self.assertIs(web.can_take(), True)
        self.assertEqual(state_of(web), state)

    def test_nodes(self):
        web = Web(Tree.read("([a (b c) d] e)"))
        for value in [*more_values(), ["b", "c"], ("c", "b"), ("a", "b", "c"), ("f", "g")]:
            for method in (web.links, web.direction, web.ways):
                check_raises(self, UnknownNode(value), method, value)

    def test_fits(self):
        web = Web(Tree(["a", "b", "c"]), [("m", ("before", "a", "b"))])
        for value in [*more_values(), ["a", "b", "c"], ("a", "b"), ("a", "b", "c", "c"), ("b", "a", "c")]:
            self.assertIs(web.fits(value), False)
        self.assertIs(web.fits(("a", "b", "c")), True)


class CopiesTest(unittest.TestCase):
    def test_what_was_passed_and_returned_may_be_changed(self):
        facts = [("m", ("before", "a", "b"))]
        web = Web(Tree(["a", "b", "c"]), facts)
        state = state_of(web)
        facts.append(("n", ("before", "b", "a")))
        facts[0] = ("o", ("first", "c"))
        for answer in (web.facts(), web.links(("a", "b", "c"))):
            answer.append("x")
            answer[0] = "y"
        self.assertEqual(state_of(web), state)

    def test_elder_webs_stay(self):
        web = Web(Tree(["a", "b", "c"]), [("m", ("before", "a", "b"))])
        state = state_of(web)
        self.assertEqual((web + ("n", ("first", "c"))).facts(), [("m", ("before", "a", "b")), ("n", ("first", "c"))])
        self.assertEqual(web.with_fact("n", ("last", "c")).links(("a", "b", "c")), [(1, 2), (1, 3), (2, 3)])
        self.assertEqual(web.without("m").links(("a", "b", "c")), [])
        self.assertEqual(state_of(web), state)


if __name__ == "__main__":
    unittest.main()
