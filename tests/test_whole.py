"""What the document promises over the whole program: its examples, and that equal calls return equal results."""

import importlib
import unittest

from offices import drawn_office
from plain import TWELVE, Draws, check_raises, drawn_case
from threeorders.alike import parted_by
from threeorders.bars import bar_entries, bar_of, is_standing
from threeorders.blocks import Blocks
from threeorders.books import Book
from threeorders.chains import derived
from threeorders.counting import all_orders, count_orders
from threeorders.derivations import shows
from threeorders.errors import CannotStand, NoTable
from threeorders.meetings import Meetings
from threeorders.office import Office
from threeorders.officetexts import read_office
from threeorders.outlooks import witness
from threeorders.places import distances, order_with_distance, order_with_place, places
from threeorders.prices import cheapest, cheapest_at
from threeorders.rings import Ring
from threeorders.spans import relations
from threeorders.surely import reasons
from threeorders.tabled import ring_without_chords, table_of, way_past
from threeorders.three import refuted, three_orders
from threeorders.trees import Tree, tree_of
from threeorders.webs import Web, web_of
from wide import drawn_web

BOOK = "finds a b c d e\nword pot a b c\nword urn b c d\n"
MODULES = [
    "errors", "names", "lots", "orders", "facts", "tables", "books", "derivations", "blocks", "bars", "trees", "three",
    "alike", "shared", "rings", "webs", "counting", "chains", "surely", "outlooks", "places", "prices", "spans",
    "meetings", "tabled", "glue", "sayings", "office", "officetexts",
]


class ExamplesTest(unittest.TestCase):
    def test_trees_and_three_orders(self):
        tree = tree_of(Book.read(BOOK))
        self.assertEqual(
            [tree.text(), len(tree), three_orders(tree)[0], refuted(tree, ("a", "b"))],
            ["([a (b c) d] e)", 10, ("d", "b", "c", "a", "e"), ("alpha", ("d", "b", "c", "a", "e"), "c")])

    def test_a_bar(self):
        check_raises(self, CannotStand(one=("a",), two=("b",), three=("c",)), Tree,
                     ["a", "b", "c"], [("a", "b"), ("b", "c"), ("a", "c")])

    def test_derivations(self):
        book = Book(["a", "b", "c", "d"], [("m", ("a", "b", "c")), ("n", ("b", "c", "d"))])
        entries = [
            (("lot", ("a", "b", "c")), "word", ("m",)), (("lot", ("b", "c", "d")), "word", ("n",)),
            (("before", "a", "d"), "fact", ("f",)), (("before", "b", "d"), "across", (0, 1, 2)),
        ]
        self.assertIs(shows(book, [("f", ("before", "a", "d"))], entries, ("before", "b", "d")), True)

    def test_webs(self):
        web = Web(Tree(["a", "b", "c"]), [("m", ("before", "a", "b")), ("n", ("before", "a", "c"))])
        self.assertEqual(
            [count_orders(web), list(all_orders(web)), reasons(web, ("b", "c")), ("b", "c") in web.tree],
            [2, [("a", "b", "c"), ("a", "c", "b")], {"a": ("ahead",)}, False])

    def test_places_and_prices(self):
        web = web_of(Book.read(BOOK))
        self.assertEqual([places(web, "a"), distances(web, "a", "d"), distances(web, "a", "e")],
                         [[0, 1, 3, 4], [2], [0, 3]])
        self.assertEqual(cheapest(Web(Tree(["a", "b"])), times={"a": 2, "b": 1}, weights={"a": 1, "b": 3}), (6, ("b", "a")))

    def test_rings(self):
        ring = Ring(["a", "b", "c", "d"], [("a", "b"), ("b", "c")])
        self.assertEqual([ring.many(), len(ring), ring.order_at(1), ring.tree_past("a").text()],
                         [2, 13, ("a", "d", "c", "b"), "[b c d]"])

    def test_tables(self):
        table = table_of(Meetings(["p", "q", "r"], [("p", "q"), ("q", "r")]))
        self.assertEqual(table.text(), "find a p q\nfind b q r\n")
        with self.assertRaises(NoTable) as caught:
            table_of(Meetings(["p", "q", "r", "s"], [("p", "q"), ("q", "r"), ("r", "s"), ("p", "s")]))
        self.assertEqual(caught.exception.why, "ring")

    def test_offices(self):
        office = Office()
        office.do(("find", "a", ("pot",)), ("find", "b", ("pot",)), ("find", "c", ()),
                  ("say", "dan", "m", ("before", "a", "c")))
        self.assertEqual([office("tree"), office("many"), office("outlook before b c"), office.history()],
                         ["((a b) c)", "2", "surely", (1, 0)])
        office = Office()
        office.do(("find", "a", ()), ("find", "b", ()), ("find", "c", ()), ("say", "dan", "m", ("before", "b", "c")),
                  ("say", "eve", "n", ("same", "a", "b")))
        self.assertEqual([office.heads(), office("tree"), office.facts(), office("order 0")],
                         [{"a": "a", "b": "a", "c": "c"}, "(a c)", [("m", ("before", "a", "c"))], "a c"])


class EqualResultsTest(unittest.TestCase):
    def test_free_results_of_cases(self):
        draws = Draws(2501)
        for _ in range(40):
            finds, words, facts, _, fitting = drawn_case(draws, 5)
            if not fitting:
                continue
            told = [self.tell_case(finds, words, facts) for _ in range(2)]
            turned = [self.tell_case(finds[::-1], words, facts)]
            self.assertEqual(told[0], told[1])
            self.assertEqual(told[0], turned[0])

    def tell_case(self, finds, words, facts):
        """Free results, each told twice by the same objects."""
        book = Book(list(finds), list(words))
        web = web_of(book, list(facts))
        gathering = Blocks(book.finds())
        for mark, lot in words:
            gathering.put(mark, lot)
        blocks = web.tree.blocks()
        numbers = {name: 1 + at * at for at, name in enumerate(sorted(finds))}
        calls = [lambda: [gathering.derivation(lot) for lot in blocks], lambda: list(gathering.entries()),
                 lambda: [derived(book, facts, ("lot", lot)) for lot in blocks],
                 lambda: [relations(web, one, other) for one in blocks for other in blocks],
                 lambda: [order_with_place(web, name, place) for name in sorted(finds) for place in places(web, name)],
                 lambda: cheapest(web, times=numbers, weights=numbers),
                 lambda: [witness(web, ("first", name)) for name in sorted(finds)],
                 lambda: parted_by(web.tree, Tree(web.tree.finds()))]
        for call in calls:
            self.assertEqual(call(), call())
        return [call() for call in calls]

    def test_books_that_do_not_stand(self):
        draws = Draws(2503)
        many = 0
        for _ in range(200):
            finds, words = draws.book(6, 6)
            one, other = Book(finds, words), Book(finds[::-1], tuple(words))
            self.assertEqual(bar_of(one), bar_of(other))
            if not is_standing(one):
                many += 1
                self.assertEqual(bar_entries(one), bar_entries(other))
                self.assertEqual(derived(one, [], ("never",)), derived(other, (), ("never",)))
        self.assertTrue(many > 5, many)

    def test_wide_webs(self):
        draws = Draws(2507)
        for _ in range(8):
            web = drawn_web(draws)
            again = Web(Tree.read(web.tree.text()), web.facts())
            x, y = draws.order(TWELVE)[:2]
            numbers = {name: 1 + draws.below(3) for name in TWELVE}
            for told in (web, again):
                self.assertEqual([order_with_distance(told, x, y, each) for each in distances(told, x, y)],
                                 [order_with_distance(web, x, y, each) for each in distances(web, x, y)])
                self.assertEqual(cheapest_at(told, x, places(web, x)[0], times=numbers, weights=numbers),
                                 cheapest_at(web, x, places(web, x)[0], times=numbers, weights=numbers))

    def test_meetings(self):
        pairs = [(x, y) for x in TWELVE[:10] for y in TWELVE[:10] if x < y and (ord(x) * ord(y)) % 3 == 0]
        one, other = Meetings(TWELVE[:10], pairs), Meetings(TWELVE[:10][::-1], [(y, x) for x, y in pairs[::-1]])
        self.assertEqual(ring_without_chords(one), ring_without_chords(other))
        self.assertEqual([way_past(one, *names) for names in ("abc", "adh", "bei")],
                         [way_past(other, *names) for names in ("abc", "adh", "bei")])

    def test_offices(self):
        draws = Draws(2509)
        lines = ("finds", "stands", "tree", "many", "order 0", "order 2", "places a", "outlook last a", "sayings")
        for _ in range(30):
            office, plain = drawn_office(draws, 16)
            twin, read = office.twin(), read_office(office.text())
            self.assertEqual(read.text(), plain.text())
            for line in lines:
                self.assertEqual({office(line), office(line), twin(line), read(line)}, {office(line)})
            if plain.held:
                name = sorted(plain.held)[0]
                kept = [each.kept(each.keep(("lot", (name,)))) if office.stands else None for each in (office, twin, read)]
                self.assertTrue(kept[0] == kept[1] == kept[2])


class ModulesTest(unittest.TestCase):
    def test_each_module_of_the_interface_needs_only_those_above_it_and_helpers(self):
        for at, name in enumerate(MODULES):
            module = importlib.import_module("threeorders." + name)
            with open(module.__file__, encoding="ascii") as file:
                text = file.read()
            for other in MODULES[at:]:
                self.assertNotIn(f"from threeorders.{other} import", text, name)


if __name__ == "__main__":
    unittest.main()
