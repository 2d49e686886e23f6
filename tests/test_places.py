import itertools
import unittest

from plain import MARKS, TWELVE, Draws, check_raises, drawn_case, more_values
from threeorders.books import Book
from threeorders.errors import InvalidNumber, Same, UnknownFind
from threeorders.facts import turned_fact
from threeorders.places import distances, order_with_distance, order_with_place, places
from threeorders.trees import Tree
from threeorders.webs import Web, web_of
from wide import Ahead, drawn_web


def apart_in(order, x, y):
    return abs(order.index(x) - order.index(y)) - 1


class Checks(unittest.TestCase):
    def check_orders_with_places(self, web, name):
        for place in places(web, name):
            order = order_with_place(web, name, place)
            self.assertTrue(web.fits(order) and order[place] == name)
        for place in range(-1, len(web.tree.finds()) + 2):
            if place not in places(web, name):
                check_raises(self, InvalidNumber(place), order_with_place, web, name, place)

    def check_orders_with_distances(self, web, x, y):
        for distance in distances(web, x, y):
            order = order_with_distance(web, x, y, distance)
            self.assertTrue(web.fits(order) and apart_in(order, x, y) == distance)
        for distance in range(-1, len(web.tree.finds()) + 2):
            if distance not in distances(web, x, y):
                check_raises(self, InvalidNumber(distance), order_with_distance, web, x, y, distance)


class SmallWebsTest(Checks):
    def test_against_all_orders(self):
        draws = Draws(1501)
        many = 0
        for _ in range(150):
            finds, words, facts, _, fitting = drawn_case(draws)
            if not fitting:
                continue
            web = web_of(Book(finds, words), facts)
            for name in finds:
                self.assertEqual(places(web, name), sorted({order.index(name) for order in fitting}))
                self.check_orders_with_places(web, name)
            for x, y in itertools.permutations(finds, 2):
                self.assertEqual(distances(web, x, y), sorted({apart_in(order, x, y) for order in fitting}))
                self.check_orders_with_distances(web, x, y)
                many += len(distances(web, x, y)) > 2
        self.assertTrue(many > 100, many)

    def test_all_facts_turned(self):
        draws = Draws(1503)
        for _ in range(60):
            web = drawn_web(draws, finds=TWELVE[:9])
            turned = Web(web.tree, [(mark, turned_fact(fact)) for mark, fact in web.facts()])
            for name in web.tree.finds():
                self.assertEqual(places(turned, name), sorted(8 - place for place in places(web, name)))
            for x, y in itertools.combinations(web.tree.finds()[:6], 2):
                self.assertEqual(distances(turned, x, y), distances(web, x, y))
                self.assertEqual(distances(web, y, x), distances(web, x, y))


class WideWebsTest(Checks):
    def test_against_counting_by_sets_that_stand_ahead(self):
        draws = Draws(1507)
        for _ in range(25):
            web = drawn_web(draws)
            ahead = Ahead(web)
            for name in TWELVE:
                self.assertEqual(places(web, name), ahead.places(name))
            self.check_orders_with_places(web, TWELVE[draws.below(12)])
            for _ in range(3):
                x, y = draws.order(TWELVE)[:2]
                self.assertEqual(distances(web, x, y), ahead.distances(x, y))
            self.check_orders_with_distances(web, x, y)

    def test_a_loose_node_of_twelve_children(self):
        web = Web(Tree(TWELVE))
        self.assertEqual(places(web, "e"), list(range(12)))
        self.assertEqual(distances(web, "e", "a"), list(range(11)))
        self.check_orders_with_places(web, "e")
        self.check_orders_with_distances(web, "b", "l")

    def test_thirty_facts(self):
        facts = [(MARKS[at], ("before", TWELVE[at % 10], TWELVE[at % 10 + 2])) for at in range(30)]
        web = Web(Tree(TWELVE), facts)
        ahead = Ahead(web)
        for name in TWELVE:
            self.assertEqual(places(web, name), ahead.places(name))
        for x, y in (("a", "l"), ("c", "f"), ("k", "l"), ("b", "d")):
            self.assertEqual(distances(web, x, y), ahead.distances(x, y))
            self.check_orders_with_distances(web, x, y)


class ByHandTest(Checks):
    def test_the_example(self):
        web = web_of(Book.read("finds a b c d e\nword pot a b c\nword urn b c d\n"))
        self.assertEqual([places(web, "a"), distances(web, "a", "d"), distances(web, "a", "e")],
                         [[0, 1, 3, 4], [2], [0, 3]])
        self.assertEqual(places(web, "b"), [1, 2, 3])
        self.assertEqual(order_with_place(web, "e", 4)[4], "e")

    def test_rows_and_links(self):
        row = Web(Tree.read("[a (b c) d]"))
        self.assertEqual((places(row, "a"), places(row, "b"), distances(row, "b", "d")), ([0, 3], [1, 2], [0, 1]))
        row = row.with_fact("m", ("before", "d", "c"))
        self.assertEqual((places(row, "a"), order_with_place(row, "b", 1)), ([3], ("d", "b", "c", "a")))
        loose = Web(Tree.read("(a (b c) d)"), [("m", ("before", "b", "a")), ("n", ("before", "d", "a"))])
        self.assertEqual((places(loose, "a"), places(loose, "d"), places(loose, "c")), ([3], [0, 2], [0, 1, 2]))
        self.assertEqual(distances(loose, "c", "a"), [0, 1, 2])
        self.assertEqual(distances(loose, "d", "a"), [0, 2])

    def test_few_finds(self):
        web = Web(Tree(["a"]))
        self.assertEqual((places(web, "a"), order_with_place(web, "a", 0)), ([0], ("a",)))
        check_raises(self, InvalidNumber(1), order_with_place, web, "a", 1)
        check_raises(self, Same("a"), distances, web, "a", "a")
        web = Web(Tree(["a", "b"]))
        self.assertEqual((places(web, "b"), distances(web, "a", "b")), ([0, 1], [0]))
        self.assertEqual(order_with_place(web, "b", 0), ("b", "a"))
        self.assertEqual(places(web.with_fact("m", ("first", "b")), "b"), [0])

    def test_returned_lists_are_new(self):
        web = Web(Tree(["a", "b", "c"]))
        places(web, "a").clear()
        distances(web, "a", "b").append(7)
        self.assertEqual((places(web, "a"), distances(web, "a", "b")), ([0, 1, 2], [0, 1]))

    def test_named_arguments(self):
        web = Web(Tree(["a", "b", "c"]))
        self.assertEqual(places(name="a", web=web), [0, 1, 2])
        self.assertEqual(distances(y="a", x="b", web=web), [0, 1])
        self.assertEqual(order_with_place(place=1, name="a", web=web)[1], "a")
        self.assertEqual(apart_in(order_with_distance(distance=1, y="a", x="c", web=web), "a", "c"), 1)


class WrongValuesTest(unittest.TestCase):
    def setUp(self):
        self.web = Web(Tree(["b", "c", "d"]), [("m", ("before", "c", "b"))])

    def test_finds(self):
        for value in more_values():
            check_raises(self, UnknownFind(value), places, self.web, value)
            check_raises(self, UnknownFind(value), order_with_place, self.web, value, None)
            for other in (None, "b"):
                check_raises(self, UnknownFind(value), distances, self.web, value, other)
                check_raises(self, UnknownFind(value), order_with_distance, self.web, value, other, None)
            check_raises(self, UnknownFind(value), distances, self.web, "b", value)
            check_raises(self, UnknownFind(value), order_with_distance, self.web, "b", value, [])

    def test_the_same_find(self):
        check_raises(self, Same("c"), distances, self.web, "c", "c")
        check_raises(self, Same("c"), order_with_distance, self.web, "c", "c", None)

    def test_numbers(self):
        for value in more_values():
            if isinstance(value, bool) or value not in (0, 1):
                check_raises(self, InvalidNumber(value), order_with_place, self.web, "c", value)
                check_raises(self, InvalidNumber(value), order_with_distance, self.web, "b", "c", value)
        for value in (2, 3, -1, 10 ** 12, "0", (0,), [0]):
            check_raises(self, InvalidNumber(value), order_with_place, self.web, "c", value)
        check_raises(self, InvalidNumber(0), order_with_place, self.web, "b", 0)


if __name__ == "__main__":
    unittest.main()
