import math
import unittest

from offices import ReadByHand, drawn_office
from plain import TWELVE, Draws, all_lots
from questions import all_questions, plain_outlook
from threeorders.office import Office
from threeorders.officetexts import read_office
from threeorders.outlooks import is_question

TEXT = "find a pot\nfind b pot urn\nfind c urn\nfind d\nsay dan m before a d\nsay eve n same c d\n"
UNKNOWN = [
    "", " ", "\n", "finds ", " finds", "finds\n", "Finds", "find", "finds a", "stands?", "stands yes", "tree tree", "many 1",
    "order", "order ", "order 00", "order 01", "order +1", "order -1", "order 1.0", "order x", "order 1 2", "order  1",
    "order 1 ", "order 1\n", "order 1234567890", "order 0000000001", "outlook", "outlook ", "outlook  first a",
    "outlook first  a", "outlook first a ", "outlook first\na", "outlook first a\n", "places", "places ", "places a b",
    "places  a", "places a\n", "places\na", "sayings none", "undo 1", "redo redo", "do", "history", "keep", "log", "unknown",
    "error", "none", "\nundo", "undo\n", "off a", "find x", "say dan x first a", "together a b", "before a d", "first a",
]


def question_text(question):
    told = question[1] if question[0] == "together" else question[1:]
    return " ".join([question[0], *told])


class LinesTest(unittest.TestCase):
    def check(self, office, answers):
        """Compares the answers to lines, and what the log tells of them."""
        logged = office.log()
        for line, answer in answers:
            self.assertEqual(office.say(line), answer, line)
            logged.append((line, answer))
            self.assertEqual(office.log(), logged)

    def test_each_word(self):
        office = read_office(TEXT)
        self.check(office, [
            ("finds", "a b c"), ("stands", "yes"), ("tree", "[a b c]"), ("many", "1"), ("order 0", "a b c"),
            ("order 1", "error InvalidNumber"), ("order 999999999", "error InvalidNumber"), ("places a", "0"),
            ("places d", "2"), ("places z", "error UnknownFind"), ("places -", "error UnknownFind"), ("sayings", "m n"),
            ("outlook before b d", "surely"), ("outlook first c", "never"), ("outlook together b d", "surely"),
            ("outlook together c d", "surely"), ("outlook together a d", "never"), ("outlook between a b d", "surely"),
            ("outlook before c d", "error InvalidQuestion"), ("outlook between c b d", "error InvalidQuestion"),
            ("outlook together d c", "error InvalidQuestion"), ("outlook together", "error InvalidQuestion"),
            ("outlook before a z", "error InvalidQuestion"), ("outlook x", "error InvalidQuestion"),
            ("outlook outlook first a", "error InvalidQuestion"), ("undo", "error NothingLeft"), ("redo", "error NothingLeft"),
        ])
        office.do(("withdraw", "m"))
        self.check(office, [
            ("many", "2"), ("order 1", "c b a"), ("places a", "0 2"), ("outlook first c", "ever"), ("sayings", "n"),
            ("undo", "done"), ("sayings", "m n"), ("redo", "done"), ("sayings", "n"), ("redo", "error NothingLeft"),
        ])
        office.do(("withdraw", "n"))
        self.check(office, [("finds", "a b c d"), ("tree", "([a b c] d)"), ("sayings", "none"), ("places b", "1 2")])
        self.assertEqual(office.history(), (2, 0))

    def test_lines_that_are_none(self):
        for office in (read_office(TEXT), Office(), read_office("find a\n")):
            before = (office.text(), office.history())
            self.check(office, [(line, "unknown") for line in UNKNOWN])
            self.assertEqual((office.text(), office.history()), before)

    def test_without_finds(self):
        self.check(Office(), [
            ("finds", "none"), ("stands", "yes"), ("sayings", "none"), ("tree", "error NoFinds"), ("many", "error NoFinds"),
            ("order 0", "error NoFinds"), ("outlook x", "error NoFinds"), ("places x", "error NoFinds"),
            ("undo", "error NothingLeft"),
        ])

    def test_where_no_order_fits(self):
        self.check(read_office("find a p q\nfind b p r\nfind c q r\nsay dan m before a b\nsay dan n before b a\n"), [
            ("finds", "a b c"), ("stands", "no"), ("sayings", "m n"),
            *[(line, "error CannotStand") for line in ("tree", "many", "order 5", "outlook x", "places z", "order 0")],
        ])
        self.check(read_office("find a\nfind b\nsay dan m before a b\nsay dan n before b a\n"), [
            ("finds", "a b"), ("stands", "no"), ("tree", "(a b)"),
            *[(line, "error Clash") for line in ("many", "order 5", "outlook x", "places z", "order 0", "places a")],
        ])

    def test_digits_behind_order(self):
        office = read_office("".join(f"find {name}\n" for name in TWELVE))
        many = math.factorial(12)
        self.assertEqual(len(str(many)), 9)
        self.check(office, [
            ("many", str(many)), (f"order {many - 1}", " ".join(TWELVE[::-1])), (f"order {many}", "error InvalidNumber"),
            ("order 0", " ".join(TWELVE)), ("order 1", " ".join(TWELVE[:10] + ["l", "k"])),
            ("order 100000000", office("order 100000000")), ("order 1000000000", "unknown"), ("order 0479001599", "unknown"),
        ])

    def test_the_call_does_the_same(self):
        one, other = read_office(TEXT), read_office(TEXT)
        for line in ("finds", "many", "nothing", "order 7", "undo", "outlook last d"):
            self.assertEqual(one(line), other.say(line))
        self.assertEqual(one.log(), other.log())

    def test_finds_that_are_called_like_the_words(self):
        office = read_office("find first\nfind last\nfind none\nsay order places before first last\n")
        self.check(office, [
            ("finds", "first last none"), ("places first", "0 1"), ("outlook first first", "ever"),
            ("outlook last last", "ever"), ("outlook before first last", "surely"), ("outlook first last", "never"),
            ("outlook together first last", "ever"), ("sayings", "places"),
        ])


class DrawnOfficesTest(unittest.TestCase):
    def test_against_the_case_read_by_hand(self):
        draws = Draws(2301)
        told = {}
        for _ in range(100):
            office, plain = drawn_office(draws, 24, 4)
            if not plain.held:
                continue
            read = ReadByHand(plain.held, plain.sayings)
            orders, fitting = read.orders()
            fault = "error CannotStand" if not orders else "" if fitting else "error Clash"
            told[fault] = told.get(fault, 0) + 1
            fitting = sorted(fitting)
            self.assertEqual(office("finds"), " ".join(read.finds))
            self.assertEqual(office("stands"), "no" if fault else "yes")
            self.assertEqual(office("tree") == "error CannotStand", not orders)
            self.assertEqual(office("many"), fault or str(len(fitting)))
            for rank in range(min(len(fitting) + 2, 8)):
                right = " ".join(fitting[rank]) if rank < len(fitting) else "error InvalidNumber"
                self.assertEqual(office(f"order {rank}"), fault or right)
            self.check_finds(office, read, fitting, fault)
            self.check_questions(office, plain, read, fitting, fault)
            self.assertEqual(office("sayings"), " ".join(mark for _, mark, _ in plain.sayings) or "none")
        self.assertEqual(len(told), 3, told)

    def check_finds(self, office, read, fitting, fault):
        for name, head in read.heads.items():
            places = sorted({order.index(head) for order in fitting})
            self.assertEqual(office(f"places {name}"), fault or " ".join(str(place) for place in places))
        self.assertEqual(office("places zz"), fault or "error UnknownFind")

    def check_questions(self, office, plain, read, fitting, fault):
        for question in all_questions(sorted(plain.held)):
            told = read.read(question)
            right = plain_outlook(fitting, told) if is_question(read.finds, told) else "error InvalidQuestion"
            self.assertEqual(office("outlook " + question_text(question)), fault or right)
        for lot in all_lots(sorted(plain.held)):
            if len(lot) > 1:
                self.assertEqual(office("outlook together " + " ".join(lot[::-1])), fault or "error InvalidQuestion")


if __name__ == "__main__":
    unittest.main()
