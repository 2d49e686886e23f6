import itertools
import unittest

from plain import TWELVE, Draws, any_values, plain_keeps
from threeorders.books import Book, book_of
from threeorders.errors import DuplicateName, InvalidFind, InvalidText, InvalidWord, TooMany, UnknownName
from threeorders.tables import Table

WORDS = [("pot", ("a", "b", "c")), ("urn", ("b", "c", "d")), ("a", ("a", "b", "c"))]
TEXT = "finds a b c d e\nword pot a b c\nword urn b c d\nword a a b c\n"
MARKS = [one + other for one in "mnop" for other in "abcdefghijk"]


def book():
    return Book(["e", "d", "a", "c", "b"], WORDS)


def many_words(many):
    return [(mark, ("a",)) for mark in MARKS[:many]]


class BookTest(unittest.TestCase):
    def test_finds_and_words(self):
        self.assertEqual(book().finds(), ["a", "b", "c", "d", "e"])
        self.assertEqual(book().words(), WORDS)
        self.assertEqual(list(book()), WORDS)
        self.assertEqual(book().lots(), [("a", "b", "c"), ("b", "c", "d"), ("a", "b", "c")])
        self.assertEqual(book().word("urn"), ("b", "c", "d"))
        self.assertEqual(book().word(mark="a"), ("a", "b", "c"))
        self.assertEqual(len(book()), 3)
        self.assertEqual(repr(book()), "Book(5 finds, 3 words)")
        self.assertEqual((book().text(), str(book())), (TEXT, TEXT))

    def test_edges(self):
        self.assertEqual(repr(Book(["a"])), "Book(1 finds, 0 words)")
        self.assertIs(bool(Book(["a"])), True)
        self.assertEqual((len(Book(["a"])), list(Book(["a"])), Book(["a"]).lots()), (0, [], []))
        full = Book(TWELVE, many_words(40))
        self.assertEqual(repr(full), "Book(12 finds, 40 words)")
        self.assertEqual(full.words(), many_words(40))
        self.assertEqual(repr(Book(["a"], [("m", ("a",))])), "Book(1 finds, 1 words)")

    def test_by_name_and_tuples(self):
        self.assertEqual(Book(words=tuple(WORDS), finds=tuple("edcba")), book())
        self.assertEqual(Book(finds=["a"]), Book(["a"], []))
        self.assertEqual(Book(("a",), ()), Book(["a"]))

    def test_unknown_marks(self):
        for value in [*any_values(), "b", "po", "pots"]:
            if not (isinstance(value, str) and value == "a"):
                for ask in (book().word, book().without):
                    with self.assertRaises(UnknownName) as caught:
                        ask(value)
                    self.assertEqual(caught.exception.name, value)

    def test_in(self):
        for value in [*any_values(), "pot", "urn", "b", WORDS[0]]:
            right = isinstance(value, str) and value in ("a", "pot", "urn")
            self.assertIs(value in book(), right, repr(value))

    def test_without(self):
        self.assertEqual(book().without("pot").words(), WORDS[1:])
        self.assertEqual(book().without("urn").words(), [WORDS[0], WORDS[2]])
        self.assertEqual(book().without(mark="a").words(), WORDS[:2])
        self.assertEqual(book().without("a").finds(), book().finds())

    def test_one_more_word(self):
        more = WORDS + [("z", ("d", "e"))]
        base = book()
        self.assertEqual(base.with_word("z", ("d", "e")).words(), more)
        self.assertEqual(base.with_word(lot=("d", "e"), mark="z"), Book(base.finds(), more))
        self.assertEqual(base + ("z", ("d", "e")), Book(base.finds(), more))
        self.assertEqual(base, book())

    def test_one_more_wrong_word(self):
        for value in any_values():
            if not (isinstance(value, tuple) and value in (("m", ("a", "b")), ("lot", ("a",)))):
                self.check_more(book(), value, InvalidWord(3))
            self.check_more(Book(["a"], many_words(40)), value, TooMany(40))
            if not (isinstance(value, str) and value in ("a", "abcdef", "before")):
                self.check_pair(book(), value, ("a",), InvalidWord(3))
            if not (isinstance(value, tuple) and value in (("a",), ("a", "b"))):
                self.check_pair(book(), "z", value, InvalidWord(3))
                self.check_pair(book(), "pot", value, InvalidWord(3))
        self.check_pair(book(), "pot", ("a",), DuplicateName("pot"))
        self.check_pair(book(), "z", ("f",), InvalidWord(3))
        self.check_pair(book(), "z", ("a", "f"), InvalidWord(3))
        self.check_pair(Book(["a"], many_words(40)), "ma", ("z",), TooMany(40))
        self.check_more(book(), ("z", ("a",), "z"), InvalidWord(3))
        self.check_more(book(), ["z", ("a",)], InvalidWord(3))

    def check_pair(self, base, mark, lot, error):
        with self.assertRaises(type(error)) as caught:
            base.with_word(mark, lot)
        self.assertEqual(vars(caught.exception), vars(error))
        self.check_more(base, (mark, lot), error)

    def check_more(self, base, word, error):
        words = base.words()
        with self.assertRaises(type(error)) as caught:
            base + word
        self.assertEqual(vars(caught.exception), vars(error), repr(word))
        self.assertEqual(base.words(), words)

    def test_fits(self):
        lots = [lot for _, lot in WORDS]
        for order in itertools.permutations("abcde"):
            self.assertIs(book().fits(order), all(plain_keeps(order, lot) for lot in lots))
            self.assertIs(book().fits(list(order)), False)
        for value in [*any_values(), tuple("abcd"), tuple("abcdef"), tuple("abcdd"), tuple("abcdea"), "abcde"]:
            self.assertIs(book().fits(value), False, repr(value))
            fits = isinstance(value, tuple) and value == ("a",)
            self.assertIs(Book(["a"]).fits(value), fits, repr(value))
        self.assertIs(book().fits(value=("a", "b", "c", "d", "e")), True)
        self.assertIs(Book(TWELVE, [("m", tuple(TWELVE[3:7]))]).fits(tuple(TWELVE)), True)
        self.assertIs(Book(TWELVE, [("m", ("a", "l"))]).fits(tuple(TWELVE)), False)

    def test_equal(self):
        self.assertEqual(book(), Book(list("abcde"), WORDS))
        self.assertFalse(book() != Book(list("abcde"), WORDS))
        self.assertNotEqual(book(), Book(list("abcdef"), WORDS))
        self.assertNotEqual(book(), Book(list("abcde"), WORDS[::-1]))
        self.assertNotEqual(book(), Book(list("abcde"), WORDS[:2]))
        self.assertNotEqual(book(), Book(list("abcde"), [("pan", WORDS[0][1]), *WORDS[1:]]))
        self.assertNotEqual(book(), Book(list("abcde"), [("pot", ("a", "b")), *WORDS[1:]]))
        for value in [*any_values(), TEXT, WORDS, Table([(name, []) for name in "abcde"])]:
            self.assertFalse(book() == value)
            self.assertTrue(book() != value)

    def test_copies(self):
        finds, words = ["b", "a"], [("m", ("a", "b")), ("n", ("a",))]
        told = Book(finds, words)
        self.assertEqual((finds, words), (["b", "a"], [("m", ("a", "b")), ("n", ("a",))]))
        finds.append("c")
        words.clear()
        for answer in (told.finds(), told.words(), told.lots()):
            answer.append("x")
        self.assertEqual(told.text(), "finds a b\nword m a b\nword n a\n")
        self.assertEqual((told.finds(), len(told.words()), len(told.lots())), (["a", "b"], 2, 2))


class BookErrorsTest(unittest.TestCase):
    def check(self, error, *given):
        with self.assertRaises(type(error)) as caught:
            Book(*given)
        self.assertEqual(vars(caught.exception), vars(error), repr(given))

    def test_finds(self):
        for value in any_values():
            if not isinstance(value, (list, tuple)) or len(value) == 0:
                self.check(InvalidFind(-1), value)
                self.check(InvalidFind(-1), value, None)
            if not (isinstance(value, str) and value in ("a", "abcdef", "before")):
                self.check(InvalidFind(0), [value])
                self.check(InvalidFind(2), ["a", "b", value, None], None)
        self.check(InvalidFind(-1), "abc")
        self.check(TooMany(12), TWELVE + ["m"])
        self.check(TooMany(12), [None] * 13, None)
        self.check(InvalidFind(2), ["a", "b", "a", "b"])
        self.check(InvalidFind(1), ("a", "a", None))
        self.check(InvalidFind(1), ["a", "a"], [("m", ("a",))] * 41)

    def test_words(self):
        for value in any_values():
            if not isinstance(value, (list, tuple)):
                self.check(InvalidWord(-1), ["a", "b"], value)
            if not (isinstance(value, tuple) and value in (("m", ("a", "b")), ("lot", ("a",)))):
                self.check(InvalidWord(0), ["a", "b"], [value])
                self.check(InvalidWord(2), ["a", "b"], (("n", ("a",)), ("n", ("a",)), value, None))
        self.check(TooMany(40), ["a"], many_words(41))
        self.check(TooMany(40), ["a"], [None] * 41)
        self.check(InvalidWord(0), ["a"], [("m", ("b",))])
        self.check(InvalidWord(0), ["a", "b"], [("m", ("b", "a"))])
        self.check(InvalidWord(0), ["a", "b"], [("m", ["a"])])
        self.check(InvalidWord(0), ["a", "b"], [["m", ("a",)]])
        self.check(InvalidWord(0), ["a", "b"], [("m", ())])
        self.check(InvalidWord(0), ["a", "b"], [("m", ("a",), ())])
        self.check(InvalidWord(0), ["a", "b"], [("M", ("a",))])

    def test_doubles(self):
        words = [("m", ("a",)), ("n", ("a",)), ("o", ("a",)), ("n", ("b",)), ("m", ("a",))]
        self.check(DuplicateName("n"), ["a", "b"], words)
        self.check(DuplicateName("m"), ["a", "b"], words[:3] + words[4:])


class BookTextsTest(unittest.TestCase):
    def check(self, text, line, why):
        with self.assertRaises(InvalidText) as caught:
            Book.read(text)
        self.assertEqual((caught.exception.line, caught.exception.why), (line, why), repr(text))

    def test_read_back(self):
        draws = Draws(5)
        books = [book(), Book(["a"]), Book(TWELVE, many_words(40)), Book(["finds", "word"], [("word", ("word",))])]
        books.extend(Book(*draws.book(12, 10)) for _ in range(40))
        for each in books:
            self.assertEqual(Book.read(each.text()), each)
            self.assertEqual(Book.read(text=str(each)).text(), each.text())
        self.assertEqual(Book.read(TEXT), book())
        self.assertEqual(book().read("finds a\n"), Book(["a"]))

    def test_missing(self):
        self.check("", 0, "missing")

    def test_no_strings(self):
        for value in any_values():
            if value != "":
                self.check(value, 0, "form")

    def test_form_of_the_finds(self):
        for line in ("", " ", "finds", "finds ", "finds a ", " finds a", "finds  a", "finds a  b", "finds A",
                     "finds b a", "finds a a", "finds abcdefg", "find a", "Finds a", "word m a", "a", "finds a 1",
                     "finds " + " ".join(TWELVE[::-1]) + " m", "fact m first a"):
            self.check(line + "\n", 0, "form")
            self.check(line + "\nword m a\n", 0, "form")
            if line:
                self.check(line, 0, "form")

    def test_form_of_the_words(self):
        for line in ("", " ", "word", "word ", "word m", "word m ", " word m a", "word  m a", "word m  a", "word m a ",
                     "word M a", "word m A", "word m b a", "word m a a", "word abcdefg a", "word m abcdefg", "Word m a",
                     "words m a", "finds a b", "finds c", "m a", "word m a c b", "fact m first a", "find a"):
            self.check("finds a b\n" + line + "\n", 1, "form")
            self.check("finds a b\nword m a\n" + line + "\nword\n", 2, "form")
            if line:
                self.check("finds a b\n" + line, 1, "form")

    def test_line_feeds(self):
        self.check("finds a", 0, "form")
        self.check("finds a\nword m a", 1, "form")
        self.check("finds a\nword m b", 1, "form")
        self.check("finds a\n\n", 1, "form")
        self.check("\nfinds a\n", 0, "form")
        self.check("\n", 0, "form")
        self.check("finds a\n ", 1, "form")

    def test_many(self):
        self.check("finds " + " ".join(TWELVE) + " m\n", 0, "many")
        self.check("finds " + " ".join(TWELVE) + " m\nword\n", 0, "many")
        full = Book(["a"], many_words(40)).text()
        self.check(full + "word z a\n", 41, "many")
        self.check(full + "word ma b\n", 41, "many")
        self.check(full + "word z\n", 41, "form")
        self.check(full + "word z a", 41, "form")

    def test_double(self):
        self.check("finds a b\nword m a\nword n a\nword m b\n", 3, "double")
        self.check("finds a b\nword m a\nword m c\nword\n", 2, "double")

    def test_unknown(self):
        self.check("finds a b\nword m c\n", 1, "unknown")
        self.check("finds a b\nword m a b\nword n a c\nword n a\n", 2, "unknown")
        self.check("finds a b\nword m m\n", 1, "unknown")

    def test_lines_left_out_doubled_exchanged(self):
        lines = TEXT.splitlines(keepends=True)
        for at in range(1, len(lines)):
            left = lines[:at] + lines[at + 1:]
            self.assertEqual(Book.read("".join(left)).text(), "".join(left))
            self.check("".join(lines[:at + 1] + lines[at:]), at + 1, "double")
            moved = [lines[at], *lines[1:at], lines[0], *lines[at + 1:]]
            self.check("".join(moved), 0, "form")
            moved = [lines[0], *lines[at:], *lines[1:at]]
            self.assertEqual(Book.read("".join(moved)).text(), "".join(moved))
        self.check("".join(lines[1:]), 0, "form")
        self.check(lines[0] + TEXT, 1, "form")


class BookOfTableTest(unittest.TestCase):
    def test_words_are_the_kinds(self):
        table = Table([("c", ["pot", "urn"]), ("a", ["pot"]), ("b", ["cup", "urn"]), ("d", [])])
        expected = [("cup", ("b",)), ("pot", ("a", "c")), ("urn", ("b", "c"))]
        self.assertEqual(book_of(table), Book(["a", "b", "c", "d"], expected))
        self.assertEqual(book_of(table=table).words(), expected)
        self.assertEqual(book_of(Table([("a", [])])), Book(["a"]))
        full = Table([(name, list("klmnopqrst")) for name in TWELVE])
        self.assertEqual(book_of(full).words(), [(kind, tuple(TWELVE)) for kind in "klmnopqrst"])
