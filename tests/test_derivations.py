import itertools
import unittest

from plain import TWELVE, any_values, plain_right
from threeorders.blocks import Blocks
from threeorders.books import Book
from threeorders.derivations import (
    RULES, first_fault, is_statement, read_entries, shortened, shows, write_entries,
)
from threeorders.errors import DuplicateName, InvalidFact, InvalidText, TooMany, UnknownFind

MANY_ELDERS = {"single": 0, "all": 0, "word": 1, "union": 2, "common": 2, "rest": 2, "fact": 1, "apart": 3,
               "across": 3, "chain": 2, "bar": 3, "self": 1}
BOOK = Book(["a", "b", "c", "d"], [("m", ("a", "b", "c")), ("n", ("b", "c", "d")), ("o", ("a", "d"))])
FACTS = [("f", ("before", "a", "d")), ("g", ("first", "a")), ("h", ("last", "c")), ("i", ("before", "b", "b"))]
NEVER = ("never",)


def lot(letters):
    return ("lot", tuple(letters))


def before(x, y):
    return ("before", x, y)


# The first entries are given ones, so that each rule finds its elders: 0 to 3 single finds, 4 to 7 lots, 8 to 11 facts.
BASE = [
    (lot("a"), "single", ()), (lot("b"), "single", ()), (lot("c"), "single", ()), (lot("d"), "single", ()),
    (lot("abcd"), "all", ()), (lot("abc"), "word", ("m",)), (lot("bcd"), "word", ("n",)), (lot("ad"), "word", ("o",)),
    (before("a", "d"), "fact", ("f",)), (before("d", "c"), "fact", ("h",)), (before("a", "b"), "fact", ("g",)),
    (before("b", "b"), "fact", ("i",)),
]
RIGHT = [
    (lot("c"), "single", ()), (lot("abcd"), "all", ()), (lot("abc"), "word", ("m",)), (lot("abcd"), "union", (5, 6)),
    (lot("bc"), "common", (5, 6)), (lot("a"), "rest", (5, 6)), (lot("d"), "rest", (6, 5)),
    (lot("bc"), "rest", (5, 7)), (before("a", "d"), "fact", ("f",)), (before("a", "b"), "fact", ("g",)),
    (before("a", "d"), "fact", ("g",)), (before("b", "c"), "fact", ("h",)), (before("a", "c"), "fact", ("h",)),
    (before("b", "b"), "fact", ("i",)), (before("a", "d"), "apart", (0, 3, 8)), (before("a", "d"), "apart", (5, 3, 8)),
    (before("b", "d"), "apart", (5, 3, 8)), (before("c", "d"), "apart", (5, 3, 8)),
    (before("a", "d"), "across", (5, 6, 8)), (before("b", "d"), "across", (5, 6, 8)),
    (before("a", "c"), "across", (5, 6, 8)), (before("d", "a"), "across", (6, 5, 9)),
    (before("a", "c"), "chain", (8, 9)), (before("b", "b"), "chain", (11, 11)), (before("a", "b"), "chain", (10, 11)),
    (NEVER, "bar", (5, 6, 7)), (NEVER, "bar", (6, 5, 7)), (NEVER, "bar", (5, 7, 6)), (NEVER, "self", (11,)),
]


def judged(entry):
    return first_fault(BOOK, FACTS, BASE + [entry])


class StatementTest(unittest.TestCase):
    def test_rules(self):
        rules = "single, all, word, union, common, rest, fact, apart, across, chain, bar, self"
        self.assertEqual(RULES, tuple(rules.split(", ")))

    def test_statements(self):
        for value in (lot("a"), lot(TWELVE), ("lot", ("pot", "urn")), before("x", "y"), before("x", "x"), NEVER,
                      ("before", "lot", "never"), ("lot", tuple(TWELVE) + ("m",))):
            self.assertIs(is_statement(value), True, value)
        self.assertIs(is_statement(value=NEVER), True)

    def test_no_statements(self):
        wrong = [(), ("lot",), ("lot", ()), ("lot", ("b", "a")), ("lot", ("a", "a")), ("lot", ["a"]), ("lot", "a"),
                 ("lot", "a", "b"), ("lot", ("a",), ("b",)), ("before",), ("before", "x"), ("before", "x", "y", "z"),
                 ("before", "x", "Y"), ("before", "x", None), ("before", "x", 1), ("before", ("x",), "y"),
                 ("before", "abcdefg", "y"), ("never", "x"), ("never", ()), ["never"], "never", ["lot", ("a",)],
                 ["before", "x", "y"], ("first", "a"), ("together", ("a",)), ("Never",), (None,), (True,), (("never",),),
                 (["never"],), ("same", "x", "y"), ("lot", None), ("lot", ("a", None))]
        for value in wrong:
            self.assertIs(is_statement(value), False, repr(value))

    def test_any_values(self):
        for value in any_values():
            right = value in [("before", "a", "b"), ("lot", ("a",)), NEVER]
            self.assertIs(is_statement(value), right, repr(value))


class RightEntriesTest(unittest.TestCase):
    def test_each_rule_right(self):
        self.assertIsNone(first_fault(BOOK, FACTS, BASE))
        for entry in RIGHT:
            self.assertIsNone(judged(entry), entry)
        self.assertEqual({rule for _, rule, _ in RIGHT}, set(RULES))

    def test_each_rule_bent_in_its_form(self):
        for statement, rule, elders in RIGHT:
            bent = [
                [statement, rule, elders], (statement, rule), (statement, rule, elders, ()), (statement, rule, None),
                (statement, rule, list(elders)), (statement, [rule], elders), (statement, rule.upper(), elders),
                (statement, (rule,), elders), (statement, None, elders), (statement, "", elders),
                (list(statement), rule, elders), (rule, statement, elders), (statement, rule, elders + ("m",)),
                (statement, rule, elders + (0,)), (statement, rule, elders[1:] if elders else (0,)),
                (statement[0], rule, elders), (statement + ("a",), rule, elders), (statement, "first", elders),
            ]
            if statement[0] == "lot":
                bent += [(("lot", list(statement[1])), rule, elders), (("lot", statement[1] * 2), rule, elders)]
                if len(statement[1]) > 1:
                    bent.append((("lot", statement[1][::-1]), rule, elders))
            for entry in bent:
                self.assertEqual(judged(entry), len(BASE), repr(entry))

    def test_each_elder_bent(self):
        for statement, rule, elders in RIGHT:
            for at in range(len(elders)):
                wrong = [-1, -12, len(BASE), len(BASE) + 1, 999999999, None, "0", (0,), [0], "m1", "z", "", ["m"],
                         ("m",), Book(["a"]), True, False, str(elders[at]) + "x"]
                wrong += [elders[at] - len(BASE), float(elders[at])] if rule not in ("word", "fact") else [0, 1]
                for value in wrong:
                    entry = (statement, rule, elders[:at] + (value,) + elders[at + 1:])
                    self.assertEqual(judged(entry), len(BASE), repr(entry))

    def test_booleans_are_no_elders(self):
        entries = [(before("b", "b"), "fact", ("i",)), (before("b", "b"), "fact", ("i",)), (NEVER, "self", (1,))]
        self.assertIsNone(first_fault(BOOK, FACTS, entries))
        for value in (True, False):
            self.assertEqual(first_fault(BOOK, FACTS, entries[:2] + [(NEVER, "self", (value,))]), 2)

    def test_elders_stand_ahead(self):
        entries = [(before("b", "b"), "chain", (0, 0))]
        self.assertEqual(first_fault(BOOK, FACTS, entries), 0)
        entries = [(NEVER, "self", (1,)), (before("b", "b"), "fact", ("i",))]
        self.assertEqual(first_fault(BOOK, FACTS, entries), 0)
        entries = [(before("b", "b"), "fact", ("i",)), (NEVER, "self", (-1,))]
        self.assertEqual(first_fault(BOOK, FACTS, entries), 1)

    def test_all_entries_against_a_plain_reading(self):
        names = ["a", "b", "c", "d", "z"]
        statements = [NEVER] + [before(x, y) for x in names for y in names]
        statements += [lot(chosen) for many in (1, 2, 3, 4) for chosen in itertools.combinations(names, many)]
        for rule in ("single", "all"):
            self.compare(statements, rule, [()])
        for rule in ("word", "fact"):
            self.compare(statements, rule, [(mark,) for mark in ("m", "n", "o", "f", "g", "h", "i", "z")])
        short = [statement for statement in statements if "z" not in str(statement)]
        for rule in ("union", "common", "rest", "chain"):
            self.compare(short, rule, list(itertools.product(range(len(BASE)), repeat=2)))
        self.compare(statements, "self", [(at,) for at in range(len(BASE))])
        self.compare([NEVER, lot("ad")], "bar", list(itertools.product(range(len(BASE)), repeat=3)))
        lots = itertools.product(range(len(BASE)), range(len(BASE)), (3, 8, 9, 10, 11))
        befores = [before(x, y) for x in names for y in names] + [NEVER, lot("a")]
        for elders in lots:
            self.compare(befores[elders[0] % 3::3], "apart", [elders])
            self.compare(befores[elders[1] % 3::3], "across", [elders])

    def compare(self, statements, rule, many_elders):
        finds, words = BOOK.finds(), BOOK.words()
        for elders in many_elders:
            for statement in statements:
                entry = (statement, rule, elders)
                right = plain_right(finds, words, FACTS, BASE + [entry], len(BASE))
                self.assertEqual(judged(entry), None if right else len(BASE), entry)

    def test_elders_of_the_wrong_kind(self):
        told = BASE + [(NEVER, "self", (11,))]
        for rule, many in MANY_ELDERS.items():
            if rule not in ("word", "fact") and many:
                for elders in itertools.product((5, 6, 7, 8, 11, 12), repeat=many):
                    for statement in (NEVER, lot("abcd"), before("a", "d"), before("b", "b")):
                        entries = told + [(statement, rule, elders)]
                        right = plain_right(BOOK.finds(), BOOK.words(), FACTS, entries, len(told))
                        self.assertEqual(first_fault(BOOK, FACTS, entries), None if right else len(told), entries[-1])

    def test_a_name_is_no_lot_of_its_letters(self):
        book = Book(["a", "ab", "b", "c"], [("m", ("b", "c"))])
        facts = [("f", ("before", "ab", "c"))]
        entries = [(lot("bc"), "word", ("m",)), (before("ab", "c"), "fact", ("f",))]
        for statement, rule in ((lot("abc"), "union"), (lot("b"), "common"), (lot("a"), "rest"), (lot("c"), "rest")):
            for elders in ((0, 1), (1, 0)):
                self.assertEqual(first_fault(book, facts, entries + [(statement, rule, elders)]), 2)
        for elders in ((0, 1, 1), (1, 0, 1)):
            self.assertEqual(first_fault(book, facts, entries + [(before("ab", "c"), "across", elders)]), 2)
            self.assertEqual(first_fault(book, facts, entries + [(before("ab", "c"), "apart", elders)]), 2)

    def test_facts_first_and_last_are_about_finds_of_the_book(self):
        book = Book(["a", "b"])
        facts = [("f", ("first", "a")), ("l", ("last", "a"))]
        self.assertIsNone(first_fault(book, facts, [(before("a", "b"), "fact", ("f",))]))
        self.assertIsNone(first_fault(book, facts, [(before("b", "a"), "fact", ("l",))]))
        for x, y, mark in (("a", "c", "f"), ("a", "a", "f"), ("b", "a", "f"), ("c", "a", "l"), ("a", "a", "l"),
                           ("a", "b", "l"), ("b", "b", "f"), ("b", "c", "f")):
            self.assertEqual(first_fault(book, facts, [(before(x, y), "fact", (mark,))]), 0, (x, y, mark))

    def test_single_and_all_are_about_finds_of_the_book(self):
        self.assertEqual(judged((lot("e"), "single", ())), len(BASE))
        self.assertEqual(judged((lot("ab"), "single", ())), len(BASE))
        self.assertEqual(judged((lot("abc"), "all", ())), len(BASE))
        self.assertEqual(judged((lot("abcde"), "all", ())), len(BASE))
        self.assertIsNone(first_fault(Book(["a"]), [], [(lot("a"), "all", ()), (lot("a"), "single", ())]))


class FirstFaultTest(unittest.TestCase):
    def test_the_first_one_counts(self):
        wrong = (lot("ab"), "single", ())
        for at in range(len(BASE) + 1):
            self.assertEqual(first_fault(BOOK, FACTS, BASE[:at] + [wrong] + BASE[at:] + [None]), at)

    def test_no_entries(self):
        self.assertIsNone(first_fault(BOOK, FACTS, []))
        self.assertIsNone(first_fault(BOOK, FACTS, ()))

    def test_any_values(self):
        for value in any_values():
            if not isinstance(value, (list, tuple)):
                self.assertEqual(first_fault(BOOK, FACTS, value), -1, repr(value))
            else:
                self.assertEqual(first_fault(BOOK, FACTS, value), 0 if value else None, repr(value))
            self.assertEqual(first_fault(BOOK, FACTS, BASE + [value]), len(BASE), repr(value))
            self.assertEqual(first_fault(BOOK, FACTS, [(value, "single", ())]), 0 if value != lot("a") else None)
            self.assertEqual(first_fault(BOOK, FACTS, [(lot("a"), value, ())]), 0)
            if value != ():
                self.assertEqual(first_fault(BOOK, FACTS, [(lot("a"), "single", value)]), 0)
            self.assertIs(shows(BOOK, FACTS, value, NEVER), False)
            right = value == NEVER
            self.assertIs(shows(BOOK, FACTS, BASE + [(NEVER, "self", (11,))], value), right, repr(value))

    def test_tuples_and_names(self):
        self.assertIsNone(first_fault(BOOK, tuple(FACTS), tuple(BASE)))
        self.assertIsNone(first_fault(entries=BASE, facts=FACTS, book=BOOK))
        self.assertIs(shows(BOOK, tuple(FACTS), tuple(BASE), before("b", "b")), True)
        self.assertIs(shows(statement=before("b", "b"), entries=BASE, facts=FACTS, book=BOOK), True)

    def test_errors_of_the_facts_come_first(self):
        wrong = [(None, InvalidFact(-1)), ([None] * 31, TooMany(30)), ([None], InvalidFact(0)),
                 ([FACTS[0], FACTS[0]], DuplicateName("f")), ([("f", ("first", "z"))], UnknownFind("z"))]
        for facts, error in wrong:
            for entries in (None, [], [None], BASE, 5):
                for ask in (lambda: first_fault(BOOK, facts, entries), lambda: shows(BOOK, facts, entries, NEVER)):
                    with self.assertRaises(type(error)) as caught:
                        ask()
                    self.assertEqual(vars(caught.exception), vars(error))

    def test_arguments_stay(self):
        entries, facts = list(BASE), list(FACTS)
        first_fault(BOOK, facts, entries)
        shows(BOOK, facts, entries, NEVER)
        shortened(entries)
        write_entries(entries)
        self.assertEqual((entries, facts), (BASE, FACTS))

    def test_words_and_facts_belong_to_the_case(self):
        self.assertEqual(first_fault(BOOK.without("o"), FACTS, BASE), 7)
        self.assertEqual(first_fault(BOOK, FACTS[1:], BASE), 8)
        self.assertEqual(first_fault(Book(list("abcde"), BOOK.words()), FACTS, BASE), 4)


class ShowsTest(unittest.TestCase):
    def test_the_last_statement(self):
        for entry in RIGHT:
            entries = BASE + [entry]
            for other in RIGHT:
                self.assertIs(shows(BOOK, FACTS, entries, other[0]), other[0] == entry[0])
        self.assertIs(shows(BOOK, FACTS, BASE, before("a", "d")), False)

    def test_no_derivations(self):
        self.assertIs(shows(BOOK, FACTS, [], NEVER), False)
        self.assertIs(shows(BOOK, FACTS, (), None), False)
        self.assertIs(shows(BOOK, FACTS, None, NEVER), False)
        wrong = (lot("ab"), "single", ())
        self.assertIs(shows(BOOK, FACTS, [wrong], lot("ab")), False)
        self.assertIs(shows(BOOK, FACTS, [wrong, BASE[0]], lot("a")), False)

    def test_the_example_of_the_document(self):
        book = Book(["a", "b", "c", "d"], [("m", ("a", "b", "c")), ("n", ("b", "c", "d"))])
        entries = [(lot("abc"), "word", ("m",)), (lot("bcd"), "word", ("n",)), (before("a", "d"), "fact", ("f",)),
                   (before("b", "d"), "across", (0, 1, 2))]
        self.assertIs(shows(book, [("f", before("a", "d"))], entries, before("b", "d")), True)


class ShortenedTest(unittest.TestCase):
    def test_what_is_needed_stays(self):
        for entry in RIGHT:
            short = shortened(BASE + [entry])
            marked = entry[1] in ("word", "fact")
            needed = [] if marked else [BASE[at] for at in sorted(set(entry[2]))]
            self.assertEqual(short[:-1], needed)
            self.assertEqual(short[-1][:2], entry[:2])
            elders = entry[2] if marked else tuple(needed.index(BASE[at]) for at in entry[2])
            self.assertEqual(short[-1][2], elders)
            self.assertIs(shows(BOOK, FACTS, short, entry[0]), True)
            self.assertEqual(shortened(short), short)
            self.assertEqual(shortened(entries=tuple(short)), short)

    def test_elders_of_elders(self):
        entries = BASE + [
            (lot("bc"), "common", (5, 6)), (lot("b"), "single", ()), (before("b", "d"), "across", (5, 6, 8)),
            (before("c", "d"), "apart", (12, 3, 14)), (lot("abcd"), "union", (6, 7)), (before("c", "c"), "chain", (15, 9)),
        ]
        self.assertIsNone(first_fault(BOOK, FACTS, entries))
        expected = [BASE[3], BASE[5], BASE[6], BASE[8], BASE[9], (lot("bc"), "common", (1, 2)),
                    (before("b", "d"), "across", (1, 2, 3)), (before("c", "d"), "apart", (5, 0, 6)),
                    (before("c", "c"), "chain", (7, 4))]
        self.assertEqual(shortened(entries), expected)
        self.assertEqual(shortened(expected), expected)
        self.assertIs(shows(BOOK, FACTS, expected, before("c", "c")), True)

    def test_doubles_stay(self):
        entries = [BASE[5], BASE[5], BASE[6], (lot("bc"), "common", (0, 2)), (lot("bc"), "common", (1, 2)),
                   (lot("abcd"), "all", ()), (lot("abcd"), "union", (1, 2))]
        self.assertEqual(shortened(entries), [BASE[5], BASE[6], (lot("abcd"), "union", (0, 1))])

    def test_one_entry(self):
        self.assertEqual(shortened([BASE[0]]), [BASE[0]])
        self.assertEqual(shortened(BASE), [BASE[-1]])
        entries = [BASE[0]]
        self.assertIsNot(shortened(entries), entries)


class EntryTextsTest(unittest.TestCase):
    def check(self, text, line):
        with self.assertRaises(InvalidText) as caught:
            read_entries(text)
        self.assertEqual((caught.exception.line, caught.exception.why), (line, "form"), repr(text))

    def test_lines(self):
        entries = [(lot("abc"), "union", (3, 4)), (before("x", "y"), "fact", ("m",)), (lot("a"), "single", ()),
                   (NEVER, "self", (7,)), (lot("pq"), "word", ("word",)), (NEVER, "bar", (0, 10, 999)),
                   (before("x", "x"), "all", ()), (("lot", ("pot", "urn")), "across", (12, 0, 100))]
        text = ("lot a b c: union 3 4\nbefore x y: fact m\nlot a: single\nnever: self 7\nlot p q: word word\n"
                "never: bar 0 10 999\nbefore x x: all\nlot pot urn: across 12 0 100\n")
        self.assertEqual(write_entries(entries), text)
        self.assertEqual(write_entries(entries=tuple(entries)), text)
        self.assertEqual(read_entries(text), entries)
        self.assertEqual(read_entries(text=text), entries)

    def test_read_back(self):
        for entry in RIGHT:
            entries = BASE + [entry]
            self.assertEqual(read_entries(write_entries(entries)), entries)
            self.assertEqual(read_entries(write_entries(shortened(entries))), shortened(entries))
        self.assertEqual(write_entries([]), "")
        self.assertEqual(read_entries(""), [])

    def test_any_rule_with_any_statement(self):
        for told in ("lot a b", "before x y", "never"):
            for rule, many in MANY_ELDERS.items():
                for elders in (["0"] * many, ["999"] * many, ["m"] * many):
                    line = " ".join([told + ": " + rule, *elders]) + "\n"
                    marked = rule in ("word", "fact")
                    if many == 0 or marked == (elders[0] == "m"):
                        self.assertEqual(write_entries(read_entries(line)), line)
                    else:
                        self.check(line, 0)

    def test_numbers(self):
        for word in ("0", "1", "9", "10", "99", "100", "999"):
            self.assertEqual(read_entries(f"never: self {word}\n"), [(NEVER, "self", (int(word),))])
        for word in ("00", "01", "010", "000", "1000", "9999", "0000", "-1", "+1", "-0", "", "a", "1a", "1.0", "1_0",
                     "\u0661", "\u00b2", "True"):
            self.check(f"never: self {word}\n", 0)
            self.check(f"never: self {word}", 0)

    def test_no_strings(self):
        for value in any_values():
            if value != "":
                self.check(value, 0)

    def test_form(self):
        for line in ("", " ", ":", ": ", "never", "never:", "never: ", "never : self 7", "never:self 7", "never: self",
                     "never: self  7", "never: self 7 ", " never: self 7", "never:  self 7", "never: self 7 8",
                     "never: Self 7", "never x: self 7", "Never: self 7", "never: first 7", "never: 7", "lot: single",
                     "lot : single", "lot b a: single", "lot a a: single", "lot a  b: single", "lot A: single",
                     "lot a 1: single", "lot abcdefg: single", "lot a: single 0", "lot a: single: 0", "lot a: word",
                     "lot a: word 1", "lot a: word M", "lot a: word m n", "lot a: word abcdefg", "lot a: word ",
                     "lot a: union 3", "lot a: union 3 4 5", "lot a: union 3 m", "before x: self 7",
                     "before x y z: self 7", "before x Y: self 7", "before  x y: self 7", "a: single", "single",
                     "lot a: fact 7", "first x: single", "together a b: word m", "lot a,: single", "lot a: single\t"):
            self.check(line + "\n", 0)
            self.check("lot a: single\n" + line + "\n", 1)
            self.check("lot a: single\n" + line + "\nnever\n", 1)
            if line:
                self.check("lot a: single\n" + line, 1)

    def test_line_feeds(self):
        self.check("lot a: single", 0)
        self.check("lot a: single\nlot a: single", 1)
        self.check("lot a: single\n\n", 1)
        self.check("\nlot a: single\n", 0)
        self.check("\n", 0)
        self.check("lot a: single\n ", 1)

    def test_lines_left_out_doubled_exchanged(self):
        lines = write_entries(BASE + [RIGHT[3]]).splitlines(keepends=True)
        for at in range(len(lines)):
            for changed in (lines[:at] + lines[at + 1:], lines[:at] + lines[at:] * 2, lines[at:] + lines[:at]):
                text = "".join(changed)
                self.assertEqual(write_entries(read_entries(text)), text)
                self.assertEqual(len(read_entries(text)), len(changed))

    def test_derivations_of_blocks(self):
        gathering = Blocks(TWELVE)
        for at in range(10):
            gathering.put("m" + TWELVE[at], tuple(TWELVE[at:at + 3]))
        book = Book(TWELVE, gathering.words())
        for block in gathering.blocks():
            entries = gathering.derivation(block)
            self.assertEqual(read_entries(write_entries(entries)), entries)
            self.assertIs(shows(book, [], read_entries(write_entries(entries)), ("lot", block)), True)
