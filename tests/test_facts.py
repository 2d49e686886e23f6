import itertools
import unittest

from plain import TWELVE, any_values
from threeorders.errors import DuplicateName, InvalidFact, InvalidText, TooMany, UnknownFind
from threeorders.facts import (
    check_facts, fact_text, fits_fact, is_fact, is_marked_fact, names_in, read_facts, turned_fact, write_facts,
)

MARKS = [one + other for one in "mno" for other in "abcdefghijklmnop"]
FACTS = [("before", "a", "b"), ("before", "a", "a"), ("first", "a"), ("last", "abcdef"), ("first", "before")]


def many_facts(many):
    return [(mark, FACTS[at % 3]) for at, mark in enumerate(MARKS[:many])]


class IsFactTest(unittest.TestCase):
    def test_facts(self):
        for fact in FACTS:
            self.assertIs(is_fact(fact), True)
            self.assertIs(is_marked_fact(("m", fact)), True)

    def test_no_facts(self):
        wrong = [(), ("before",), ("before", "a"), ("before", "a", "b", "c"), ("first",), ("first", "a", "b"),
                 ("last",), ("last", "a", "a"), ("behind", "a", "b"), ("same", "a", "b"), ("a", "b"), ("First", "a"),
                 ("before", "a", "B"), ("before", "", "b"), ("before", None, "b"), ("before", "a", 1),
                 ("first", "abcdefg"), ("last", True), ("first", ["a"]), ("last", ("a",)), (None, "a"), (True, "a"),
                 (["first"], "a"), (("first",), "a"), ["first", "a"], ["before", "a", "b"], "first a", None]
        for value in wrong:
            self.assertIs(is_fact(value), False, repr(value))
            self.assertIs(is_marked_fact(("m", value)), False, repr(value))

    def test_any_values(self):
        for value in any_values():
            right = isinstance(value, tuple) and value == ("before", "a", "b")
            self.assertIs(is_fact(value), right, repr(value))
            self.assertIs(is_marked_fact(("m", value)), right, repr(value))
            marked = isinstance(value, tuple) and value == ("m", ("before", "a", "b"))
            self.assertIs(is_marked_fact(value), marked, repr(value))
            name = isinstance(value, str) and value in ("a", "abcdef", "before")
            self.assertIs(is_marked_fact((value, ("first", "a"))), name, repr(value))

    def test_no_marked_facts(self):
        for value in (["m", ("first", "a")], ("m", ("first", "a"), "m"), (("first", "a"), "m"), ("m",), ("first", "a")):
            self.assertIs(is_marked_fact(value), False, repr(value))

    def test_by_name(self):
        self.assertIs(is_fact(value=("first", "a")), True)
        self.assertIs(is_marked_fact(value=("m", ("first", "a"))), True)


class OneFactTest(unittest.TestCase):
    def test_names(self):
        self.assertEqual(names_in(("before", "b", "a")), ["b", "a"])
        self.assertEqual(names_in(("before", "b", "b")), ["b", "b"])
        self.assertEqual(names_in(("first", "c")), ["c"])
        self.assertEqual(names_in(fact=("last", "c")), ["c"])
        names_in(FACTS[0]).append("x")
        self.assertEqual(names_in(FACTS[0]), ["a", "b"])

    def test_fits(self):
        for many in range(1, 5):
            for order in itertools.permutations("abcd"[:many]):
                for x in order:
                    others = [y for y in order if y != x]
                    first = all(order.index(x) < order.index(y) for y in others)
                    last = all(order.index(y) < order.index(x) for y in others)
                    self.assertIs(fits_fact(order, ("first", x)), first)
                    self.assertIs(fits_fact(order, ("last", x)), last)
                    for y in order:
                        self.assertIs(fits_fact(order, ("before", x, y)), order.index(x) < order.index(y))
        self.assertIs(fits_fact(fact=("before", "a", "b"), order=("b", "a")), False)

    def test_turned(self):
        self.assertEqual(turned_fact(("before", "a", "b")), ("before", "b", "a"))
        self.assertEqual(turned_fact(("before", "a", "a")), ("before", "a", "a"))
        self.assertEqual(turned_fact(("first", "a")), ("last", "a"))
        self.assertEqual(turned_fact(fact=("last", "a")), ("first", "a"))

    def test_text(self):
        self.assertEqual(fact_text(("before", "b", "a")), "before b a")
        self.assertEqual(fact_text(("first", "pot")), "first pot")
        self.assertEqual(fact_text(fact=("last", "pot")), "last pot")


class CheckFactsTest(unittest.TestCase):
    def check(self, error, finds, facts):
        with self.assertRaises(type(error)) as caught:
            check_facts(finds, facts)
        self.assertEqual(vars(caught.exception), vars(error))

    def test_right_facts(self):
        self.assertIsNone(check_facts(["a"], []))
        self.assertIsNone(check_facts(["a"], ()))
        self.assertIsNone(check_facts(["b", "a"], many_facts(30)))
        self.assertIsNone(check_facts(("b", "a"), tuple(many_facts(30))))
        self.assertIsNone(check_facts(facts=[("a", ("first", "a"))], finds=["a"]))
        self.assertIsNone(check_facts(["a"], [("m", ("before", "a", "a"))]))
        self.assertIsNone(check_facts(TWELVE, [("m", ("first", "l")), ("n", ("first", "k"))]))

    def test_what_is_no_list(self):
        for value in any_values():
            if not isinstance(value, (list, tuple)):
                self.check(InvalidFact(-1), ["a"], value)
        self.check(InvalidFact(-1), ["a"], {})

    def test_too_many(self):
        self.check(TooMany(30), ["a", "b"], many_facts(31))
        self.check(TooMany(30), ["a", "b"], many_facts(40))
        self.check(TooMany(30), ["a", "b"], [None] * 31)

    def test_the_first_wrong_fact(self):
        for value in any_values():
            if not (isinstance(value, tuple) and value == ("m", ("before", "a", "b"))):
                self.check(InvalidFact(0), ["a", "b"], [value])
                self.check(InvalidFact(1), ["a", "b"], (("m", ("first", "a")), value, None))
        self.check(InvalidFact(2), ["a"], [("m", ("first", "z")), ("m", ("first", "z")), ("m", ("never",))])

    def test_doubles(self):
        facts = [("m", ("first", "z")), ("n", ("first", "a")), ("o", ("last", "a")), ("n", ("last", "a")),
                 ("m", ("last", "a"))]
        self.check(DuplicateName("n"), ["a"], facts)
        self.check(DuplicateName("m"), ["a"], [facts[0], facts[4]])

    def test_unknown_finds(self):
        facts = [("m", ("before", "a", "b")), ("n", ("before", "a", "d")), ("o", ("before", "c", "a"))]
        self.check(UnknownFind("d"), ["a", "b"], facts)
        self.check(UnknownFind("b"), ["a"], facts)
        self.check(UnknownFind("a"), ["b"], facts)
        self.check(UnknownFind("z"), ["a"], [("m", ("last", "z"))])
        self.check(UnknownFind("m"), ["a"], [("m", ("first", "m"))])

    def test_arguments_stay(self):
        finds, facts = ["b", "a"], many_facts(3)
        check_facts(finds, facts)
        self.assertEqual((finds, facts), (["b", "a"], many_facts(3)))


class FactTextsTest(unittest.TestCase):
    def check(self, text, line, why):
        with self.assertRaises(InvalidText) as caught:
            read_facts(text)
        self.assertEqual((caught.exception.line, caught.exception.why), (line, why), repr(text))

    def test_text(self):
        facts = [("m", ("before", "x", "y")), ("first", ("first", "x")), ("o", ("last", "x"))]
        text = "fact m before x y\nfact first first x\nfact o last x\n"
        self.assertEqual(write_facts(facts), text)
        self.assertEqual(write_facts(tuple(facts)), text)
        self.assertEqual(read_facts(text), facts)
        self.assertEqual(write_facts(facts=facts), text)
        self.assertEqual(read_facts(text=text), facts)

    def test_read_back(self):
        for many in range(31):
            self.assertEqual(read_facts(write_facts(many_facts(many))), many_facts(many))
        self.assertEqual(write_facts([]), "")
        self.assertEqual(read_facts(""), [])

    def test_no_strings(self):
        for value in any_values():
            if not isinstance(value, str):
                self.check(value, 0, "form")
            elif value != "":
                self.check(value, 0, "form")

    def test_form(self):
        right = "fact m first x\n"
        for line in ("", " ", "fact", "fact m", "fact m first", "fact m first x y", "fact m before x",
                     "fact m before x y z", "fact m before", "fact  m first x", "fact m  first x", "fact m first  x",
                     " fact m first x", "fact m first x ", "fact M first x", "fact m first X", "fact m First x",
                     "Fact m first x", "fact abcdefg first x", "fact m behind x y", "m first x", "fact first x",
                     "fact m1 first x", "fact m before x 1", "fact m same x y", "word m x", "fact m together x y",
                     "fact m first x\t"):
            self.check(line + "\n", 0, "form")
            self.check(right + line + "\n", 1, "form")
            self.check(line + "\n" + line + "\n", 0, "form")
            if line:
                self.check(right + line, 1, "form")

    def test_line_feeds(self):
        self.check("fact m first x", 0, "form")
        self.check("fact m first x\nfact n first x", 1, "form")
        self.check("fact m first x\n\n", 1, "form")
        self.check("\nfact m first x\n", 0, "form")
        self.check("\n", 0, "form")
        self.check("fact m first x\n ", 1, "form")
        self.check("fact m first x\nfact m first x", 1, "form")

    def test_many(self):
        text = write_facts(many_facts(30))
        self.check(text + "fact z first x\n", 30, "many")
        self.check(text + "fact ma first x\n", 30, "many")
        self.check(text + "fact z first X\n", 30, "form")
        self.check(text + "fact z first x", 30, "form")
        self.check(text + "fact z first x\nfact y\n", 30, "many")

    def test_double(self):
        self.check("fact m first x\nfact n first x\nfact m last x\n", 2, "double")
        self.check("fact m first x\nfact m first x\nfact\n", 1, "double")
        self.check(write_facts(many_facts(29)) + "fact ma first x\n", 29, "double")
