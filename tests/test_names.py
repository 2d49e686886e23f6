import unittest

from plain import any_values
from threeorders.names import is_name, is_number


class NamesTest(unittest.TestCase):
    def test_names(self):
        for value in ("a", "z", "pot", "abcdef", "zzzzzz", "aaaaaa", "find", "before"):
            self.assertIs(is_name(value), True, value)
        for letter in "abcdefghijklmnopqrstuvwxyz":
            self.assertIs(is_name(letter), True, letter)
            self.assertIs(is_name("a" * 5 + letter), True, letter)

    def test_no_names(self):
        wrong = ["", "abcdefg", "zzzzzzzzzzzz", "A", "Pot", "poT", "a1", "1", "0", " ", "a b", " a", "a ", "a\n", "\n",
                 "`", "{", "a-b", "a_b", "\u00e4", "\u00df", "\u03b1", "\u0131", "\u00aa", "a\u0301", "ab,"]
        for value in wrong:
            self.assertIs(is_name(value), False, repr(value))

    def test_no_names_of_other_kinds(self):
        for value in any_values():
            right = isinstance(value, str) and value in ("a", "abcdef", "before")
            self.assertIs(is_name(value), right, repr(value))
        self.assertIs(is_name(b"a"), False)

    def test_name_by_name(self):
        self.assertIs(is_name(value="a"), True)


class NumbersTest(unittest.TestCase):
    def test_edges(self):
        for least, most in ((0, 0), (0, 9), (-3, 3), (1, 999999), (5, 4)):
            for value in (least - 1, least, least + 1, most - 1, most, most + 1):
                self.assertIs(is_number(value, least, most), least <= value <= most, (value, least, most))

    def test_booleans_are_no_numbers(self):
        for value in (True, False):
            self.assertIs(is_number(value, 0, 1), False)
            self.assertIs(is_number(value, -5, 5), False)

    def test_other_kinds(self):
        for value in any_values():
            right = isinstance(value, int) and not isinstance(value, bool)
            self.assertIs(is_number(value, -1, 999999999), right, repr(value))
        self.assertIs(is_number("1", 0, 9), False)
        self.assertIs(is_number(1.0, 0, 9), False)

    def test_number_by_name(self):
        self.assertIs(is_number(most=5, value=5, least=1), True)
        self.assertIs(is_number(6, most=5, least=1), False)
