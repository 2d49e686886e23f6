import copy
import unittest

from offices import DIGGERS, PlainOffice, ReadByHand, drawn_deed, drawn_office
from plain import MARKS, TWELVE, Draws, any_values, check_raises, more_values
from threeorders.books import Book
from threeorders.errors import CannotStand, Clash, NoFinds, NothingLeft, UnknownFind
from threeorders.office import Office
from threeorders.sayings import Saying
from threeorders.tables import Table
from threeorders.trees import Tree
from threeorders.webs import Web


def all_of(office):
    """A copy of all that an office tells of its state."""
    many = len(office.kept_statements())
    return copy.deepcopy([office.text(), office.history(), office.journal(), office.log(), office.kept_statements(), office.busy,
            [office.kept(at) for at in range(many)], office.finds(), [saying.text() for saying in office.sayings()]])


def some_office():
    office = Office()
    office.do(("find", "a", ["pot", "cup"]), ("find", "b", ("pot",)), ("find", "c", []))
    office.do(("say", "dan", "m", ("before", "a", "c")), ("say", "eve", "n", ("together", ("b", "c"))))
    return office


class DeedsTest(unittest.TestCase):
    def test_by_hand(self):
        office = some_office()
        self.assertEqual(office.finds(), ["a", "b", "c"])
        self.assertEqual([office.kinds_of(name) for name in "abc"], [["cup", "pot"], ["pot"], []])
        self.assertEqual(office.sayings(), [Saying("dan", "m", ("before", "a", "c")),
                                            Saying("eve", "n", ("together", ("b", "c")))])
        self.assertEqual(office.text(), "find a cup pot\nfind b pot\nfind c\nsay dan m before a c\nsay eve n together b c\n")
        self.assertEqual((len(office), bool(office), repr(office)), (2, True, "Office(3 finds, 2 sayings)"))
        self.assertEqual(office.history(), (2, 0))
        self.assertEqual(office.journal(), [
            [("find", "a", ("pot", "cup")), ("find", "b", ("pot",)), ("find", "c", ())],
            [("say", "dan", "m", ("before", "a", "c")), ("say", "eve", "n", ("together", ("b", "c")))]])
        self.assertIsNone(office.do(("withdraw", "m"), ("off", "a"), ("leave", "eve")))
        self.assertEqual(office.text(), "find b pot\nfind c\n")
        self.assertEqual(office.journal()[2], [("withdraw", "m"), ("off", "a"), ("leave", "eve")])

    def test_an_empty_office(self):
        office = Office()
        self.assertEqual((office.finds(), office.sayings(), office.heads(), office.text(), office.log()), ([], [], {}, "", []))
        self.assertEqual((len(office), bool(office), repr(office)), (0, True, "Office(0 finds, 0 sayings)"))
        self.assertEqual((office.history(), office.journal(), office.kept_statements()), ((0, 0), [], []))
        self.assertIs(office.stands, True)
        self.assertIs(office.busy, False)
        for method in (office.table, office.book, office.facts, office.web):
            check_raises(self, NoFinds(), method)
        for method in (office.undo, office.redo):
            check_raises(self, NothingLeft(), method)
        self.assertIsNone(office.do())
        self.assertEqual(office.history(), (0, 0))

    def test_against_a_plain_office(self):
        draws = Draws(2101)
        told = {}
        for _ in range(60):
            office, plain = Office(), PlainOffice()
            for _ in range(40):
                deeds = [drawn_deed(draws, plain) for _ in range(draws.below(4))]
                fault, _ = plain.fault_of(deeds)
                told[type(fault).__name__] = told.get(type(fault).__name__, 0) + 1
                if fault is None:
                    text = office.tried(*deeds)
                    office.do(*deeds)
                    plain.do(deeds)
                    self.assertEqual(text, plain.text())
                else:
                    check_raises(self, fault, office.tried, *deeds)
                    check_raises(self, fault, office.do, *deeds)
                back = draws.below(5)
                if back == 0 and plain.done or back == 1 and plain.undone:
                    (office.redo if back else office.undo)()
                    plain.go(back == 0)
                self.check_state(office, plain)
        self.assertTrue(min(told.values()) > 20 and len(told) == 6, told)

    def check_state(self, office, plain):
        self.assertEqual(office.text(), plain.text())
        self.assertEqual(office.history(), (len(plain.done), len(plain.undone)))
        self.assertEqual(office.journal(), plain.done)
        self.assertEqual(office.finds(), sorted(plain.held))
        self.assertEqual([office.kinds_of(name) for name in office.finds()],
                         [sorted(plain.held[name]) for name in sorted(plain.held)])
        self.assertEqual([(each.digger, each.mark, each.claim) for each in office.sayings()], plain.sayings)
        self.assertIs(office.busy, False)

    def test_properties_cannot_be_called_or_set(self):
        office = some_office()
        for name in ("stands", "busy"):
            self.assertIsInstance(vars(Office)[name], property)
            with self.assertRaises(AttributeError):
                setattr(office, name, True)


class HistoryTest(unittest.TestCase):
    def test_undo_and_redo(self):
        office = some_office()
        text = office.text()
        self.assertIsNone(office.undo())
        self.assertEqual((office.text(), office.history()), ("find a cup pot\nfind b pot\nfind c\n", (1, 1)))
        self.assertEqual(len(office.journal()), 1)
        office.undo()
        self.assertEqual((office.text(), office.history(), office.journal()), ("", (0, 2), []))
        check_raises(self, NothingLeft(), office.undo)
        self.assertIsNone(office.redo())
        office.redo()
        self.assertEqual((office.text(), office.history()), (text, (2, 0)))
        check_raises(self, NothingLeft(), office.redo)
        self.assertEqual(office.history(), (2, 0))

    def test_another_step_ends_redo_and_a_call_without_deeds_does_not(self):
        office = some_office()
        office.undo()
        office.do()
        office.tried(("off", "c"))
        self.assertEqual(office.history(), (1, 1))
        check_raises(self, UnknownFind("z"), office.do, ("off", "c"), ("off", "z"))
        self.assertEqual(office.history(), (1, 1))
        office.do(("off", "c"))
        self.assertEqual(office.history(), (2, 0))
        check_raises(self, NothingLeft(), office.redo)
        self.assertEqual(office.journal()[1], [("off", "c")])
        office.undo()
        office.redo()
        self.assertEqual(office.text(), "find a cup pot\nfind b pot\n")

    def test_forty_steps(self):
        office = Office()
        texts = [office.text()]
        for at in range(40):
            name = TWELVE[at // 2 % 12]
            office.do(("off", name) if at & 1 else ("find", name, ["pot"]))
            texts.append(office.text())
        self.assertEqual((office.history(), len(office.journal())), ((40, 0), 40))
        for at in range(39, -1, -1):
            office.undo()
            self.assertEqual((office.text(), office.history()), (texts[at], (at, 40 - at)))
        for at in range(1, 41):
            office.redo()
            self.assertEqual(office.text(), texts[at])

    def test_thirty_sayings_and_twelve_finds_with_ten_kinds(self):
        office = Office()
        office.do(*[("find", name, MARKS[:10] if name == "a" else []) for name in TWELVE])
        office.do(*[("say", DIGGERS[at % 3], MARKS[10 + at], ("before", TWELVE[at % 11], TWELVE[at % 11 + 1])) for at in range(30)])
        self.assertEqual(repr(office), "Office(12 finds, 30 sayings)")
        self.assertEqual((len(office.book()), len(office.facts()), office.stands), (10, 30, True))
        self.assertEqual(office("order 0"), " ".join(TWELVE))
        office = Office()
        office.do(*[("find", name, MARKS[:10]) for name in TWELVE])
        office.do(*[("say", "dan", MARKS[10 + at], ("together", ("a", "b"))) for at in range(30)])
        self.assertEqual(len(office.book()), 40)


class ReadCaseTest(unittest.TestCase):
    def check_read(self, office, read):
        self.assertEqual(office.heads(), read.heads)
        self.assertEqual(list(office.heads()), sorted(read.heads))
        self.assertEqual(office.table(), Table(list(read.held.items())))
        self.assertEqual(office.book(), Book(read.finds, read.words))
        self.assertEqual(office.facts(), read.facts)
        orders, fitting = read.orders()
        self.assertIs(office.stands, len(fitting) > 0)
        if fitting:
            self.assertEqual(office.web(), Web(Tree(read.finds, [lot for _, lot in read.words]), read.facts))
        else:
            with self.assertRaises(Clash if orders else CannotStand):
                office.web()
        return (len(orders) > 0) + (len(fitting) > 0)

    def test_against_the_case_read_by_hand(self):
        draws = Draws(2111)
        told = [0, 0, 0]
        for _ in range(400):
            office, plain = drawn_office(draws, 30)
            if not plain.held:
                check_raises(self, NoFinds(), office.book)
                continue
            told[self.check_read(office, ReadByHand(plain.held, plain.sayings))] += 1
        self.assertTrue(min(told) > 10, told)

    def test_finds_that_are_one(self):
        office = Office()
        office.do(("find", "a", ["pot"]), ("find", "b", ["urn"]), ("find", "c", ["urn", "cup"]), ("find", "d", ()))
        office.do(("say", "dan", "m", ("same", "c", "a")), ("say", "dan", "n", ("together", ("b", "c", "d"))),
                  ("say", "dan", "o", ("first", "c")), ("say", "eve", "p", ("before", "b", "d")))
        self.assertEqual(office.heads(), {"a": "a", "b": "b", "c": "a", "d": "d"})
        self.assertEqual(office.table().text(), "find a cup pot urn\nfind b urn\nfind d\n")
        self.assertEqual(office.book().words(), [("cup", ("a",)), ("pot", ("a",)), ("urn", ("a", "b")), ("n", ("a", "b", "d"))])
        self.assertEqual(office.facts(), [("o", ("first", "a")), ("p", ("before", "b", "d"))])
        self.assertEqual(office.kinds_of("c"), ["cup", "urn"])
        self.assertEqual((office.stands, office("order 0")), (True, "a b d"))
        office.do(("say", "eve", "q", ("same", "d", "b")))
        self.assertEqual((office.stands, office.facts()[1]), (False, ("p", ("before", "b", "b"))))
        check_raises(self, Clash(["p"]), office.web)

    def test_an_office_may_come_to_have_a_case_that_no_order_fits(self):
        office = Office()
        office.do(*[("find", name, []) for name in "abc"])
        lots = [("a", "b"), ("b", "c"), ("a", "c")]
        office.do(*[("say", "dan", mark, ("together", lot)) for mark, lot in zip("mno", lots)])
        self.assertIs(office.stands, False)
        check_raises(self, CannotStand(("a",), ("b",), ("c",)), office.web)
        self.assertEqual(len(office.book()), 3)
        office.do(("withdraw", "n"))
        self.assertIs(office.stands, True)

    def test_a_saying_that_was_withdrawn_is_as_never_said(self):
        draws = Draws(2113)
        for _ in range(60):
            office, plain = drawn_office(draws, 14)
            if not plain.sayings:
                continue
            gone = plain.sayings[draws.below(len(plain.sayings))][1]
            other = Office()
            other.do(*[("find", name, kinds) for name, kinds in plain.held.items()])
            other.do(*[("say", *saying) for saying in plain.sayings if saying[1] != gone])
            office.do(("withdraw", gone))
            self.assertTrue(office == other)
            self.assertEqual((office.heads(), office.book(), office.facts(), office.stands),
                             (other.heads(), other.book(), other.facts(), other.stands))
            for line in ("finds", "stands", "tree", "many", "order 0", "places a", "outlook first a", "sayings"):
                self.assertEqual(office(line), other(line))


class EqualityTest(unittest.TestCase):
    def test_equal_offices(self):
        one, other = Office(), Office()
        one.do(("find", "a", ["pot", "cup"]), ("find", "b", []), ("say", "dan", "m", ("first", "a")))
        self.assertFalse(one == other)
        other.do(("find", "b", ()), ("find", "a", ("cup", "pot")))
        self.assertTrue(one != other)
        other.do(("say", "dan", "m", ("first", "a")))
        self.assertTrue(one == other)
        other.say("finds")
        other.keep(("before", "a", "b"))
        self.assertTrue(one == other)
        one.do(("say", "dan", "n", ("last", "b")), ("say", "dan", "o", ("last", "b")))
        other.do(("say", "dan", "o", ("last", "b")), ("say", "dan", "n", ("last", "b")))
        self.assertFalse(one == other)
        for value in more_values() + [one.text()]:
            self.assertFalse(one == value)
            self.assertFalse(value == one)


class IndependenceTest(unittest.TestCase):
    def test_what_is_returned_may_be_changed(self):
        office = some_office()
        office.keep(("before", "a", "c"))
        office.say("finds")
        kept = all_of(office)
        for told in (office.finds(), office.kinds_of("a"), office.sayings(), office.heads(), office.facts(), office.log(),
                     office.kept(0), office.kept_statements(), *office.journal(), office.journal()):
            told.clear()
        for saying in office.sayings():
            saying.mark = "zz"
            saying.claim = ("first", "zz")
        self.assertEqual(all_of(office), kept)
        self.assertEqual(office.heads(), {"a": "a", "b": "b", "c": "c"})

    def test_what_was_passed_may_be_changed(self):
        office = Office()
        kinds = ["pot"]
        office.do(("find", "a", kinds))
        kinds.append("cup")
        self.assertEqual((office.kinds_of("a"), office.journal()), (["pot"], [[("find", "a", ("pot",))]]))
        office.undo()
        kinds.clear()
        office.redo()
        self.assertEqual(office.kinds_of("a"), ["pot"])

    def test_a_twin_is_led_apart(self):
        office = some_office()
        office.undo()
        office.keep(("lot", ("a", "b")))
        office.say("tree")
        twin = office.twin()
        self.assertEqual(all_of(twin), all_of(office))
        self.assertTrue(twin == office and type(twin) is Office)
        kept = all_of(office)
        twin.redo()
        twin.do(("leave", "dan"))
        twin.say("many")
        twin.keep(("lot", ("c",)))
        self.assertEqual(all_of(office), kept)
        changed = all_of(twin)
        office.redo()
        office.undo()
        office.undo()
        office.say("undo")
        office.do(("find", "z", ()))
        office.keep(("lot", ("z",)))
        self.assertEqual(all_of(twin), changed)
        self.assertEqual(twin.history(), (3, 0))
        self.assertEqual((twin.kept(0), twin.log()[0]), (office.kept(0), office.log()[0]))

    def test_two_offices_share_nothing(self):
        one, other = some_office(), Office()
        self.assertEqual(all_of(other), all_of(Office()))
        one.say("finds")
        one.keep(("lot", ("a",)))
        self.assertEqual(all_of(other), all_of(Office()))


class WrongValuesTest(unittest.TestCase):
    def test_finds(self):
        office = some_office()
        for value in any_values():
            if value not in ("a", "b", "c"):
                check_raises(self, UnknownFind(value), office.kinds_of, value)
        self.assertEqual(office.kinds_of(name="b"), ["pot"])

    def test_calls_by_name(self):
        office = some_office()
        self.assertEqual(office.say(line="finds"), "a b c")
        self.assertEqual(office(line="finds"), "a b c")
        self.assertEqual(office.keep(statement=("lot", ("a",))), 0)
        self.assertEqual(len(office.kept(number=0)), 1)
        self.assertIs(office.is_good(number=0), True)


if __name__ == "__main__":
    unittest.main()
