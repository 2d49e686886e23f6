import unittest

from plain import (
    MARKS, TWELVE, Draws, bar_in, check_raises, has_bar, is_bar, plain_blocks, plain_orders, plain_right,
)
from threeorders.bars import bar_entries, bar_of, core, is_standing, kept_words, least_part, needless
from threeorders.blocks import blocks_of
from threeorders.books import Book
from threeorders.derivations import shortened, shows
from threeorders.errors import CannotStand, Standing


def stands(finds, words):
    return bool(plain_orders(finds, [lot for _, lot in words]))


def plain_least(finds, words):
    for word in list(words):
        fewer = [other for other in words if other != word]
        if not stands(finds, fewer):
            words = fewer
    return [mark for mark, _ in words]


def plain_kept(finds, words):
    kept = []
    for word in words:
        if stands(finds, kept + [word]):
            kept.append(word)
    marks = [mark for mark, _ in kept]
    return marks, [mark for mark, _ in words if mark not in marks]


def blocks_without(finds, words, word):
    return plain_blocks(finds, [other[1] for other in words if other != word])


def plain_needless(finds, words):
    blocks = plain_blocks(finds, [lot for _, lot in words])
    return [word[0] for word in words if blocks_without(finds, words, word) == blocks]


def plain_core(finds, words):
    for word in list(words):
        if frozenset(word[1]) in blocks_without(finds, words, word):
            words = [other for other in words if other != word]
    return [mark for mark, _ in words]


def check_bar(test, bar, blocks):
    test.assertIsInstance(bar, tuple)
    test.assertEqual(list(bar), sorted(bar))
    test.assertTrue(all(isinstance(lot, tuple) and lot and list(lot) == sorted(lot) for lot in bar))
    test.assertTrue(is_bar(blocks, bar), bar)


class SmallBooksTest(unittest.TestCase):
    def test_against_all_orders(self):
        draws = Draws(101)
        many = [0, 0]
        for _ in range(500):
            finds, words = draws.book(6, 9)
            if draws.below(3) == 0 and words:
                words.append(("z", words[draws.below(len(words))][1]))
            book = Book(finds[::-1], words)
            standing = stands(finds, words)
            many[standing] += 1
            self.assertIs(is_standing(book), standing)
            self.assertEqual(kept_words(book), plain_kept(finds, words))
            if standing:
                self.check_standing(book, finds, words)
            else:
                self.check_barred(book, finds, words)
        self.assertTrue(min(many) > 100, many)

    def check_standing(self, book, finds, words):
        self.assertIsNone(bar_of(book))
        check_raises(self, Standing(), bar_entries, book)
        check_raises(self, Standing(), least_part, book)
        self.assertEqual(needless(book), plain_needless(finds, words))
        self.assertEqual(core(book), plain_core(finds, words))
        self.assertEqual(kept_words(book), ([mark for mark, _ in words], []))

    def check_barred(self, book, finds, words):
        blocks = plain_blocks(finds, [lot for _, lot in words])
        self.assertTrue(has_bar(blocks))
        check_bar(self, bar_of(book), blocks)
        self.assertEqual(bar_of(book), bar_of(Book(finds, words)))
        self.check_entries(book, finds, words)
        least = least_part(book)
        self.assertEqual(least, plain_least(finds, words))
        for mark in least:
            self.assertIs(is_standing(Book(finds, [word for word in words if word[0] in least and word[0] != mark])), True)
        for function in (needless, core):
            with self.assertRaises(CannotStand) as caught:
                function(book)
            check_bar(self, bar_in(caught.exception), blocks)

    def check_entries(self, book, finds, words):
        entries = bar_entries(book)
        self.assertIsInstance(entries, list)
        self.assertEqual(entries[-1][0], ("never",))
        self.assertEqual(entries[-1][1], "bar")
        for at, (_, _, elders) in enumerate(entries):
            self.assertTrue(all(isinstance(elder, str) or 0 <= elder < at for elder in elders))
            self.assertTrue(plain_right(finds, words, [], entries, at), entries)
        self.assertIs(shows(book, [], entries, ("never",)), True)
        self.assertEqual(shortened(entries), entries)
        self.assertEqual(bar_entries(book), entries)


class ByHandTest(unittest.TestCase):
    def setUp(self):
        words = [("m", ("a", "b")), ("n", ("b", "c")), ("o", ("c", "d")), ("p", ("b", "d"))]
        self.barred = Book(["a", "b", "c", "d"], words)
        self.standing = Book(["a", "b", "c"], [("m", ("a", "b")), ("n", ("a", "b")), ("o", ("b", "c")), ("p", ("a",))])

    def test_the_example_of_the_document(self):
        book = Book(["a", "b", "c", "d"], [("m", ("a", "b")), ("n", ("b", "c")), ("o", ("b", "d"))])
        self.assertIs(is_standing(book), False)
        check_bar(self, bar_of(book), plain_blocks("abcd", book.lots()))
        self.assertEqual(least_part(book), ["m", "n", "o"])
        self.assertEqual(kept_words(book), (["m", "n"], ["o"]))

    def test_a_bar_of_three_words(self):
        book = Book(["a", "b", "c"], [("m", ("a", "b")), ("n", ("b", "c")), ("o", ("a", "c"))])
        self.assertEqual(bar_of(book), (("a",), ("b",), ("c",)))
        check_raises(self, CannotStand(("a",), ("b",), ("c",)), needless, book)
        check_raises(self, CannotStand(("a",), ("b",), ("c",)), core, book)
        self.assertEqual(len(bar_entries(book)), 4)

    def test_parts_of_books(self):
        self.assertEqual(least_part(self.barred), ["n", "o", "p"])
        self.assertEqual(kept_words(self.barred), (["m", "n", "o"], ["p"]))
        self.assertEqual(least_part(Book(["a", "b", "c", "d"], self.barred.words()[::-1])), ["p", "n", "m"])

    def test_two_words_of_one_lot(self):
        self.assertEqual(needless(self.standing), ["m", "n", "p"])
        self.assertEqual(core(self.standing), ["n", "o"])
        words = [("x", ("a", "b")), ("y", ("a", "b")), ("z", ("b", "c")), ("t", ("a", "c"))]
        book = Book(["a", "b", "c"], words)
        self.assertEqual(least_part(book), ["y", "z", "t"])
        self.assertEqual(kept_words(book), (["x", "y", "z"], ["t"]))

    def test_a_core_that_is_found_in_order(self):
        words = [("m", ("a", "b", "c")), ("n", ("b", "c", "d")), ("o", ("b", "c")), ("p", ("a", "b", "c", "d"))]
        book = Book(["a", "b", "c", "d", "e"], words)
        self.assertEqual(needless(book), ["o", "p"])
        self.assertEqual(core(book), ["m", "n"])
        self.assertEqual(core(Book(book.finds(), [words[3], words[2], words[1], words[0]])), ["n", "m"])

    def test_named_arguments(self):
        self.assertIs(is_standing(book=self.barred), False)
        self.assertEqual(bar_of(book=self.barred), bar_of(self.barred))
        self.assertEqual(bar_entries(book=self.barred), bar_entries(self.barred))
        self.assertEqual(least_part(book=self.barred), ["n", "o", "p"])
        self.assertEqual(kept_words(book=self.barred), (["m", "n", "o"], ["p"]))
        self.assertEqual(needless(book=self.standing), ["m", "n", "p"])
        self.assertEqual(core(book=self.standing), ["n", "o"])

    def test_what_is_returned_may_be_changed(self):
        for function, book in ((least_part, self.barred), (bar_entries, self.barred), (needless, self.standing),
                               (core, self.standing)):
            first = list(function(book))
            function(book).clear()
            self.assertEqual(function(book), first)
        kept_words(self.barred)[0].clear()
        self.assertEqual(kept_words(self.barred), (["m", "n", "o"], ["p"]))
        self.assertEqual(len(self.barred), 4)


class EdgesTest(unittest.TestCase):
    def test_books_without_words_and_of_one_find(self):
        for book in (Book(["a"]), Book(["a"], [("m", ("a",))]), Book(["a", "b"]), Book(TWELVE)):
            self.assertIs(is_standing(book), True)
            self.assertIsNone(bar_of(book))
            self.assertEqual(kept_words(book), ([mark for mark, _ in book], []))
            self.assertEqual(needless(book), [mark for mark, _ in book])
            self.assertEqual(core(book), [])
            check_raises(self, Standing(), bar_entries, book)
            check_raises(self, Standing(), least_part, book)

    def test_two_finds(self):
        book = Book(["a", "b"], [("m", ("a", "b")), ("n", ("a",)), ("o", ("b",))])
        self.assertIs(is_standing(book), True)
        self.assertEqual((needless(book), core(book)), (["m", "n", "o"], []))

    def test_a_ring_of_twelve_pairs(self):
        lots = [tuple(TWELVE[at:at + 2]) for at in range(11)] + [("a", "l")]
        book = Book(TWELVE, list(zip(MARKS, lots)))
        self.assertIs(is_standing(book), False)
        one, two, three = [set(lot) for lot in bar_of(book)]
        self.assertFalse(one & two or one & three or two & three)
        self.assertEqual(least_part(book), [mark for mark, _ in book])
        self.assertEqual(kept_words(book), ([mark for mark, _ in book][:11], [MARKS[11]]))
        entries = bar_entries(book)
        self.assertIs(shows(book, [], entries, ("never",)), True)
        self.assertEqual(shortened(entries), entries)

    def test_forty_words(self):
        draws = Draws(7)
        for _ in range(5):
            order = draws.order(TWELVE)
            lots = []
            while len(lots) < 40:
                low = draws.below(11)
                lots.append(tuple(sorted(order[low:low + 2 + draws.below(11 - low)])))
            book = Book(TWELVE, list(zip(MARKS, lots)))
            self.assertIs(is_standing(book), True)
            left = core(book)
            self.assertEqual(blocks_of(Book(TWELVE, [word for word in book if word[0] in left])), blocks_of(book))
            self.assertEqual(needless(Book(TWELVE, [word for word in book if word[0] in left])), [])
            self.assertEqual(plain_blocks(TWELVE, lots), {frozenset(block) for block in blocks_of(book)})
            torn = Book(TWELVE, book.words()[:39] + [("z", tuple(sorted([order[0], order[5], order[11]])))])
            self.assertIs(is_standing(torn), False)
            self.assertEqual(kept_words(torn), ([mark for mark, _ in torn][:39], ["z"]))
            self.assertEqual(least_part(torn)[-1], "z")
            self.assertIs(shows(torn, [], bar_entries(torn), ("never",)), True)


if __name__ == "__main__":
    unittest.main()
