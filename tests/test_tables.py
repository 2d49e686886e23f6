import unittest

from plain import TWELVE, any_values
from threeorders.books import Book
from threeorders.errors import DuplicateName, InvalidFind, InvalidText, TooMany, UnknownFind, UnknownName
from threeorders.tables import Table

KINDS = list("klmnopqrstuv")
HOLDINGS = [("c", ["pot"]), ("a", ["urn", "pot"]), ("b", []), ("d", ["cup"])]
TEXT = "find a pot urn\nfind b\nfind c pot\nfind d cup\n"


class TableTest(unittest.TestCase):
    def test_finds_and_kinds(self):
        table = Table(HOLDINGS)
        self.assertEqual(table.finds(), ["a", "b", "c", "d"])
        self.assertEqual(table.kinds(), ["cup", "pot", "urn"])
        self.assertEqual(table.kinds_of("a"), ["pot", "urn"])
        self.assertEqual(table.kinds_of("b"), [])
        self.assertEqual(table.kinds_of(name="c"), ["pot"])
        self.assertEqual(table.lot_of_kind("pot"), ("a", "c"))
        self.assertEqual(table.lot_of_kind(kind="cup"), ("d",))
        self.assertEqual(table.text(), TEXT)
        self.assertEqual(str(table), TEXT)
        self.assertEqual(repr(table), "Table(4 finds, 3 kinds)")
        self.assertEqual(len(table), 4)

    def test_edges(self):
        self.assertEqual(repr(Table([("a", [])])), "Table(1 finds, 0 kinds)")
        self.assertEqual(repr(Table([("a", ["a"])])), "Table(1 finds, 1 kinds)")
        table = Table([(name, KINDS[:10]) for name in TWELVE[::-1]])
        self.assertEqual(repr(table), "Table(12 finds, 10 kinds)")
        self.assertEqual((table.finds(), table.kinds(), len(table)), (TWELVE, KINDS[:10], 12))
        self.assertEqual(table.lot_of_kind("t"), tuple(TWELVE))

    def test_by_name_and_tuples(self):
        same = tuple((name, tuple(kinds)) for name, kinds in HOLDINGS)
        self.assertEqual(Table(holdings=same), Table(HOLDINGS))
        self.assertEqual(Table(same).text(), TEXT)

    def test_unknown_names(self):
        table = Table(HOLDINGS)
        for value in [*any_values(), "pot", "e", "z"]:
            if not (isinstance(value, str) and value in ("a", "b", "c", "d")):
                with self.assertRaises(UnknownFind) as caught:
                    table.kinds_of(value)
                self.assertEqual(caught.exception.name, value)
        for value in [*any_values(), "c", "po", "z"]:
            with self.assertRaises(UnknownName) as caught:
                table.lot_of_kind(value)
            self.assertEqual(caught.exception.name, value)

    def test_holds(self):
        table = Table(HOLDINGS)
        held = [("a", "pot"), ("a", "urn"), ("c", "pot"), ("d", "cup")]
        names = [*any_values(), "b", "c", "d", "pot", "urn", "cup", "z"]
        for name in names:
            for kind in names:
                right = isinstance(name, str) and isinstance(kind, str) and (name, kind) in held
                self.assertIs(table.holds(name, kind), right, (name, kind))
        self.assertIs(table.holds(kind="pot", name="a"), True)

    def test_in(self):
        table = Table(HOLDINGS)
        for value in [*any_values(), "b", "pot", "z"]:
            self.assertIs(value in table, isinstance(value, str) and value in ("a", "b"), repr(value))

    def test_equal(self):
        table = Table(HOLDINGS)
        self.assertEqual(table, Table(HOLDINGS[::-1]))
        self.assertEqual(table, Table([("c", ["pot"]), ("a", ["pot", "urn"]), ("b", ()), ("d", ("cup",))]))
        self.assertFalse(table != Table(HOLDINGS))
        self.assertNotEqual(table, Table(HOLDINGS[1:]))
        self.assertNotEqual(table, Table([("e", ["pot"]), *HOLDINGS[1:]]))
        self.assertNotEqual(table, Table([("c", ["pan"]), *HOLDINGS[1:]]))
        self.assertNotEqual(table, Table([("c", []), *HOLDINGS[1:]]))
        self.assertNotEqual(Table([("a", ["k"]), ("b", [])]), Table([("a", []), ("b", ["k"])]))
        for value in [*any_values(), TEXT, HOLDINGS, Book(["a", "b", "c", "d"])]:
            self.assertFalse(table == value)
            self.assertTrue(table != value)

    def test_copies(self):
        holdings = [("b", ["l"]), ("a", ["m", "k"])]
        table = Table(holdings)
        self.assertEqual(holdings, [("b", ["l"]), ("a", ["m", "k"])])
        holdings[0][1].append("x")
        holdings[1][1].clear()
        holdings.append(("c", []))
        for answer in (table.finds(), table.kinds(), table.kinds_of("a")):
            answer.append("x")
        self.assertEqual(table.text(), "find a k m\nfind b l\n")
        self.assertEqual((table.finds(), table.kinds(), table.kinds_of("a")), (["a", "b"], ["k", "l", "m"], ["k", "m"]))


class TableErrorsTest(unittest.TestCase):
    def check(self, error, holdings):
        with self.assertRaises(type(error)) as caught:
            Table(holdings)
        self.assertEqual(vars(caught.exception), vars(error), repr(holdings))

    def test_what_is_no_list(self):
        for value in any_values():
            if not isinstance(value, (list, tuple)) or len(value) == 0:
                self.check(InvalidFind(-1), value)
        self.check(InvalidFind(-1), {"a": []})

    def test_too_many_finds(self):
        self.check(TooMany(12), [(name, []) for name in TWELVE + ["m"]])
        self.check(TooMany(12), [None] * 13)
        self.check(InvalidFind(0), [None] * 12)

    def test_the_first_wrong_holding(self):
        wrong = [("a",), ("a", [], []), ["a", []], ("a", None), ("a", "k"), ("a", "kl"), ("A", []), ("", []),
                 (None, []), (True, []), (["a"], []), ("abcdefg", []), ("a", ["k", "k"]), ("a", ["k", "l", "k"]),
                 ("a", ["K"]), ("a", ["k", None]), ("a", [["k"]]), ("a", [("k",)]), ("a", ("k", "k")), ("a", {}),
                 ("a", [True]), ("a", [""]), ("a", Book(["a"]))]
        right = [("m", ["a"]), ("a", ["b"]), ("m", ("a", "b")), ("m", ("b", "a")), ("lot", ("a",)),
                 ("m", ("before", "a", "b"))]
        for value in [*any_values(), *wrong]:
            if value not in right:
                self.check(InvalidFind(0), [value])
                self.check(InvalidFind(2), (("a", []), ("a", []), value, None))

    def test_doubles(self):
        self.check(DuplicateName("b"), [("a", []), ("b", []), ("b", ["k"]), ("a", [])])
        self.check(DuplicateName("a"), [("a", KINDS), ("b", []), ("a", [])])

    def test_too_many_kinds(self):
        self.check(TooMany(10), [("a", KINDS[:11])])
        self.check(TooMany(10), [("a", KINDS[:6]), ("b", KINDS[5:11])])
        self.check(InvalidFind(1), [("a", KINDS[:11]), ("b", ["k", "k"])])
        self.assertEqual(len(Table([("a", KINDS[:6]), ("b", KINDS[4:10])]).kinds()), 10)


class TableTextsTest(unittest.TestCase):
    def check(self, text, line, why):
        with self.assertRaises(InvalidText) as caught:
            Table.read(text)
        self.assertEqual((caught.exception.line, caught.exception.why), (line, why), repr(text))

    def test_read_back(self):
        tables = [Table(HOLDINGS), Table([("a", [])]), Table([("find", ["find"]), ("a", [])]),
                  Table([(name, KINDS[:10]) for name in TWELVE]),
                  Table([(name, KINDS[at:at + 3]) for at, name in enumerate(TWELVE[:8])])]
        for table in tables:
            self.assertEqual(Table.read(table.text()), table)
            self.assertEqual(Table.read(text=str(table)).text(), table.text())
        self.assertEqual(Table.read("find a\n").text(), "find a\n")
        self.assertEqual(Table(HOLDINGS).read(TEXT), Table(HOLDINGS))

    def test_missing(self):
        self.check("", 0, "missing")

    def test_no_strings(self):
        for value in any_values():
            if value != "":
                self.check(value, 0, "form")

    def test_form(self):
        for line in ("", " ", "find", "find ", "find b ", " find b", "find  b", "find b  k", "find B", "find b K",
                     "find bcdefgh", "find b k1", "find b l k", "find b k k", "find b m k l", "Find b", "finds b",
                     "b", "b k", "finds b c", "word b c", "fact m first b", "find b k\t"):
            self.check(line + "\n", 0, "form")
            self.check("find a k\n" + line + "\n", 1, "form")
            self.check("find a k\n" + line + "\nfind\n", 1, "form")
            self.check("find z k\n" + line + "\n", 1, "form")

    def test_line_feeds(self):
        self.check("find a", 0, "form")
        self.check("find a\nfind b", 1, "form")
        self.check("find b\nfind a", 1, "form")
        self.check("find a\n\n", 1, "form")
        self.check("\n", 0, "form")
        self.check("\nfind a\n", 0, "form")
        self.check("find a\n ", 1, "form")
        self.check("find a k", 0, "form")

    def test_many(self):
        text = "".join(f"find {name}\n" for name in TWELVE)
        self.check(text + "find m\n", 12, "many")
        self.check(text + "find a\n", 12, "many")
        self.check(text + "find l\n", 12, "many")
        self.check(text + "find M\n", 12, "form")
        self.check(text + "find m", 12, "form")
        self.check("find a " + " ".join(KINDS[:11]) + "\n", 0, "many")
        self.check("find a " + " ".join(KINDS[:10]) + "\nfind b u\n", 1, "many")
        self.check("find b " + " ".join(KINDS[:10]) + "\nfind a u\n", 1, "many")
        self.check("find a " + " ".join(KINDS[:5]) + "\nfind b " + " ".join(KINDS[3:9]) + "\nfind c s t u\n", 2, "many")
        self.check("find a " + " ".join(KINDS[:11][::-1]) + "\n", 0, "form")

    def test_order(self):
        self.check("find b\nfind a\n", 1, "order")
        self.check("find a\nfind a\n", 1, "order")
        self.check("find a\nfind c\nfind b\nfind\n", 2, "order")
        self.check("find a\nfind c\nfind a k\n", 2, "order")
        self.assertEqual(Table.read("find a\nfind ab\nfind b\n").finds(), ["a", "ab", "b"])

    def test_lines_left_out_doubled_exchanged(self):
        lines = TEXT.splitlines(keepends=True)
        for at in range(len(lines)):
            left = lines[:at] + lines[at + 1:]
            self.assertEqual(Table.read("".join(left)).text(), "".join(left))
            self.check("".join(lines[:at + 1] + lines[at:]), at + 1, "order")
            for other in range(at):
                moved = list(lines)
                moved[at], moved[other] = moved[other], moved[at]
                self.check("".join(moved), other + 1, "order")
