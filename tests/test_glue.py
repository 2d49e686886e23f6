import unittest

from plain import MARKS, TWELVE, Draws, any_values, check_raises, more_values
from threeorders.books import Book
from threeorders.errors import InvalidPair
from threeorders.glue import book_by, facts_by, groups, table_by
from threeorders.tables import Table


def plain_group(name, pairs):
    """The group of a name by [38], name by name."""
    group = {name}
    while True:
        more = group | {each for pair in pairs for each in pair if set(pair) & group}
        if more == group:
            return group
        group = more


def plain_head(names, name, pairs):
    return min(plain_group(name, pairs) & set(names))


def drawn_pairs(draws, names):
    """Pairs of names, some of which are no finds."""
    wide = names + ["zz", "yy"]
    pairs = [(wide[draws.below(len(wide))], wide[draws.below(len(wide))]) for _ in range(draws.below(6))]
    return pairs + pairs[:draws.below(3)]


class GroupsTest(unittest.TestCase):
    def test_by_hand(self):
        pairs = [("d", "c"), ("b", "zz"), ("zz", "d"), ("e", "e"), ("c", "d"), ("x", "y")]
        found = groups(["e", "d", "c", "a", "b"], pairs)
        self.assertEqual(found, {"a": "a", "b": "b", "c": "b", "d": "b", "e": "e"})
        self.assertEqual(list(found), ["a", "b", "c", "d", "e"])
        self.assertEqual(groups(names=("b", "a"), pairs=(("b", "a"),)), {"a": "a", "b": "a"})
        self.assertEqual(groups([], [("a", "b")]), {})
        self.assertEqual(groups(["b", "b"], []), {"b": "b"})
        found.clear()
        self.assertEqual(pairs[0], ("d", "c"))

    def test_a_head_is_a_name_of_the_list(self):
        self.assertEqual(groups(["c", "d"], [("c", "a"), ("a", "d")]), {"c": "c", "d": "c"})
        self.assertEqual(groups(["d"], [("d", "a")]), {"d": "d"})

    def test_drawn_pairs(self):
        draws = Draws(2001)
        sizes = {}
        for _ in range(200):
            names = TWELVE[:1 + draws.below(12)]
            pairs = drawn_pairs(draws, names)
            found = groups(list(draws.order(names)), pairs)
            self.assertEqual(found, {name: plain_head(names, name, pairs) for name in names})
            self.assertEqual(list(found), sorted(names))
            sizes[len(set(found.values())) < len(names)] = True
        self.assertEqual(len(sizes), 2)

    def test_a_long_chain_and_many_pairs(self):
        chain = list(zip(TWELVE[::-1], TWELVE[::-1][1:]))
        self.assertEqual(groups(TWELVE, chain * 36), {name: "a" for name in TWELVE})
        far = [("a", "zz")] + [("z" + one, "z" + other) for one, other in zip("zyxwv", "yxwvu")] + [("zu", "l")]
        self.assertEqual(groups(TWELVE, far)["l"], "a")


class ReadByPairsTest(unittest.TestCase):
    def test_tables_by_hand(self):
        table = Table([("a", ["p"]), ("b", ["q", "r"]), ("c", []), ("d", ["p", "q"])])
        read = table_by(table, [("d", "b"), ("zz", "c")])
        self.assertEqual(read.text(), "find a p\nfind b p q r\nfind c\n")
        self.assertEqual(table_by(pairs=[], table=table), table)
        self.assertEqual(table_by(table, [(x, "c") for x in "abd"]).text(), "find a p q r\n")

    def test_books_by_hand(self):
        book = Book(["a", "b", "c", "d"], [("m", ("b", "d")), ("n", ("a", "c", "d")), ("o", ("c", "d"))])
        read = book_by(book, [("d", "b")])
        self.assertEqual(read.text(), "finds a b c\nword m b\nword n a b c\nword o b c\n")
        self.assertEqual(book_by(pairs=(), book=book), book)
        self.assertEqual(len(book), 3)

    def test_facts_by_hand(self):
        facts = [("m", ("before", "a", "d")), ("n", ("first", "d")), ("o", ("before", "d", "b")), ("p", ("last", "c"))]
        read = facts_by(["a", "b", "c", "d"], facts, [("b", "d")])
        self.assertEqual(read, [("m", ("before", "a", "b")), ("n", ("first", "b")), ("o", ("before", "b", "b")),
                                ("p", ("last", "c"))])
        self.assertEqual(facts_by(pairs=[], facts=tuple(facts), finds=("d", "c", "b", "a")), facts)
        self.assertEqual(facts_by(["a"], [], []), [])
        self.assertEqual(facts[2], ("o", ("before", "d", "b")))

    def test_drawn(self):
        draws = Draws(2003)
        for _ in range(120):
            finds = TWELVE[:2 + draws.below(11)]
            pairs = drawn_pairs(draws, finds)
            heads = {name: plain_head(finds, name, pairs) for name in finds}
            held = {name: list(draws.lot(MARKS[:10])) if draws.below(2) else [] for name in finds}
            read = table_by(Table(list(held.items())), pairs)
            self.assertEqual(read.finds(), sorted(set(heads.values())))
            for head in read.finds():
                kinds = {kind for name in finds if heads[name] == head for kind in held[name]}
                self.assertEqual(read.kinds_of(head), sorted(kinds))
            words = [(mark, draws.lot(finds)) for mark in MARKS[:draws.below(8)]]
            book = book_by(Book(finds, words), pairs)
            self.assertEqual(book.finds(), read.finds())
            self.assertEqual(book.words(), [(mark, tuple(sorted({heads[name] for name in lot}))) for mark, lot in words])
            facts = draws.facts(finds, draws.below(9))
            self.assertEqual(facts_by(finds, facts, pairs),
                             [(mark, (fact[0], *[heads[name] for name in fact[1:]])) for mark, fact in facts])

    def test_finds_that_are_called_like_the_words(self):
        facts = [("m", ("before", "first", "last")), ("n", ("first", "first")), ("o", ("last", "before"))]
        read = facts_by(["before", "first", "last"], facts, [("first", "last")])
        self.assertEqual(read, [("m", ("before", "first", "first")), ("n", ("first", "first")), ("o", ("last", "before"))])


class WrongPairsTest(unittest.TestCase):
    def test_wrong_pairs(self):
        calls = [lambda pairs: groups(["a"], pairs), lambda pairs: table_by(Table([("a", [])]), pairs),
                 lambda pairs: book_by(Book(["a"]), pairs), lambda pairs: facts_by(["a"], [], pairs)]
        for call in calls:
            for value in more_values():
                if not isinstance(value, (list, tuple)):
                    check_raises(self, InvalidPair(-1), call, value)
                if value not in [("a", "b"), ("b", "a"), ("a", "a"), ("first", "a"), ("before", "a")]:
                    check_raises(self, InvalidPair(2), call, [("a", "b"), ("zz", "zz"), value, None])
            for value in any_values():
                check_raises(self, InvalidPair(0), call, [("a", value, "b"), ("a", "b")])
            check_raises(self, InvalidPair(1), call, (("a", "b"), ["a", "b"]))


if __name__ == "__main__":
    unittest.main()
