import itertools
import unittest

from plain import all_lots, any_values, check_raises, more_values
from threeorders.errors import InvalidClaim, InvalidName
from threeorders.sayings import Saying, claim_names, claim_text, is_claim, read_claim

RIGHT = [
    ("together", ("a",)), ("together", ("a", "abcdef")), ("before", "a", "b"), ("before", "b", "a"), ("first", "a"),
    ("last", "abcdef"), ("same", "b", "a"), ("same", "first", "same"), ("together", tuple("abcdefghijkl")),
]
WRONG = [
    ("together", ()), ("together", ("b", "a")), ("together", ("a", "a")), ("together", ["a"]), ("together", "a"),
    ("together", "a", "b"), ("together",), ("together", ("a",), ("b",)), ("together", ("A",)), ("together", ("abcdefg",)),
    ("before", "a", "a"), ("before", "a"), ("before", "a", "b", "c"), ("before", "a", "B"), ("before", ("a", "b")),
    ["before", "a", "b"], ("first",), ("first", "a", "b"), ("first", ""), ("first", None), ("last", ("a",)),
    ("same", "a", "a"), ("same", "a"), ("same", "a", ""), ["same", "a", "b"], ("between", "a", "b", "c"), ("never",),
    ("lot", ("a",)), ("Same", "a", "b"), (None, "a"), (["first"], "a"), ("first ", "a"), (("before", "a", "b"),),
]
TEXTS_OF_NONE = [
    "", " ", "a", "together", "together b a", "together a a", "together a  b", "together a ", " together a", "before a a",
    "before a", "before a b c", "before a b ", "before a B", "first", "first a b", "first  a", "last a1", "same a a",
    "same a", "same a b c", "first a\n", "\nfirst a", "first\na", "Together a", "together a,b", "never", "lot a",
    "first abcdefg", "between a b c", "(first a)",
]


class ClaimsTest(unittest.TestCase):
    def test_which_values_are_claims(self):
        for claim in RIGHT:
            self.assertIs(is_claim(claim), True, claim)
        for value in WRONG + [value for value in more_values() if value not in RIGHT]:
            self.assertIs(is_claim(value), False, value)
        self.assertIs(is_claim(value=("first", "a")), True)

    def test_names(self):
        self.assertEqual(claim_names(("together", ("a", "b", "c"))), ["a", "b", "c"])
        self.assertEqual(claim_names(("before", "b", "a")), ["b", "a"])
        self.assertEqual(claim_names(claim=("same", "y", "x")), ["y", "x"])
        self.assertEqual(claim_names(("last", "z")), ["z"])
        claim_names(("together", ("a",))).clear()

    def test_texts(self):
        self.assertEqual(claim_text(("together", ("a", "b", "c"))), "together a b c")
        self.assertEqual(claim_text(claim=("before", "b", "a")), "before b a")
        self.assertEqual([claim_text(("first", "x")), claim_text(("same", "y", "x"))], ["first x", "same y x"])
        self.assertEqual(read_claim(text="together a b"), ("together", ("a", "b")))
        self.assertEqual(read_claim("same y x"), ("same", "y", "x"))

    def test_there_and_back(self):
        claims = [("together", lot) for lot in all_lots(["a", "b", "same", "z"])]
        claims += [(word, x, y) for word in ("before", "same") for x, y in itertools.permutations(["a", "first", "b"], 2)]
        for claim in RIGHT + claims + [("first", "last"), ("last", "first")]:
            self.assertEqual(read_claim(claim_text(claim)), claim)

    def test_texts_that_are_no_claim(self):
        for text in TEXTS_OF_NONE:
            self.assertIsNone(read_claim(text), text)
        for value in more_values() + WRONG + RIGHT:
            self.assertIsNone(read_claim(value), value)


class SayingTest(unittest.TestCase):
    def test_by_hand(self):
        saying = Saying("dan", "m", ("together", ("a", "b")))
        self.assertEqual((saying.digger, saying.mark, saying.claim), ("dan", "m", ("together", ("a", "b"))))
        self.assertEqual(saying.text(), "say dan m together a b")
        self.assertEqual(repr(saying), "Saying(dan says m)")
        self.assertEqual(Saying(claim=("first", "a"), mark="m", digger="m").text(), "say m m first a")

    def test_equality(self):
        saying = Saying("dan", "m", ("before", "a", "b"))
        self.assertTrue(saying == Saying("dan", "m", ("before", "a", "b")))
        for other in (Saying("eve", "m", ("before", "a", "b")), Saying("dan", "n", ("before", "a", "b")),
                      Saying("dan", "m", ("before", "b", "a")), Saying("dan", "m", ("same", "a", "b")),
                      "say dan m before a b", None, ("dan", "m", ("before", "a", "b"))):
            self.assertFalse(saying == other)
            self.assertTrue(saying != other)

    def test_errors(self):
        for value in any_values():
            if value not in ("a", "abcdef", "before"):
                check_raises(self, InvalidName(value), Saying, value, None, None)
                check_raises(self, InvalidName(value), Saying, "dan", value, None)
            if not is_claim(value):
                check_raises(self, InvalidClaim(), Saying, "dan", "m", value)
        for value in WRONG:
            check_raises(self, InvalidClaim(), Saying, "dan", "m", value)
        check_raises(self, InvalidName("D"), Saying, "D", "M", 1)


if __name__ == "__main__":
    unittest.main()
