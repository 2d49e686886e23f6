import unittest

from offices import ITEMS
from plain import MARKS, TWELVE, any_values, check_raises, more_values
from threeorders.errors import (
    DuplicateName, InUse, InvalidClaim, InvalidDeed, InvalidName, NoFinds, Taken, TooMany, UnknownFind, UnknownName,
)
from threeorders.office import Office
from threeorders.officetexts import read_office
from threeorders.sayings import is_claim

TEXT = "find a cup pot\nfind b pot\nfind c\nsay dan m before a b\nsay eve n together a b\nsay dan o same a c\n"


def told_of(office):
    return office.text(), office.history(), office.journal(), office.log(), office.kept_statements(), office.busy


class Refusals(unittest.TestCase):
    def setUp(self):
        self.office = read_office(TEXT)

    def check_refused(self, error, *deeds):
        """Sees to it that deeds are refused, by themselves, ahead of wrong deeds and behind right ones."""
        self.check_call(error, *deeds)
        self.check_call(error, *deeds, ("off", "zz"), ("say", None, None, None))
        self.check_call(error, ("find", "x", ()), ("off", "x"), *deeds)

    def check_call(self, error, *deeds):
        kept = told_of(self.office)
        check_raises(self, error, self.office.tried, *deeds)
        check_raises(self, error, self.office.do, *deeds)
        self.assertEqual(told_of(self.office), kept)


class FindTest(Refusals):
    def test_names(self):
        for value in any_values():
            if value not in ("a", "abcdef", "before"):
                self.check_refused(InvalidName(value), ("find", value, ("pot", "pot", None)))
        self.check_refused(Taken("a"), ("find", "a", (None,)))
        self.check_refused(Taken("new"), ("find", "new", ()), ("find", "new", ()))

    def test_twelve_and_thirteen_finds(self):
        self.office.do(*[("find", name, []) for name in TWELVE[3:]])
        self.assertEqual(len(self.office.finds()), 12)
        self.check_call(TooMany(12), ("find", "z", (None,)))
        self.check_call(Taken("l"), ("find", "l", ()))
        self.check_call(InvalidName("Z"), ("find", "Z", ()))
        self.check_call(TooMany(12), ("off", "l"), ("find", "l", ()), ("find", "z", ()))
        self.assertIsNone(self.office.do(("off", "l"), ("find", "z", ())))

    def test_kinds(self):
        for value in any_values():
            if value not in ("a", "abcdef", "before"):
                self.check_refused(InvalidName(value), ("find", "x", ("k", "k", value, "m", None)))
        self.check_refused(DuplicateName("q"), ("find", "x", ["k", "m", "q", "q", "k"]))
        self.check_refused(DuplicateName("k"), ("find", "x", ["k", "q", "k", "q"]))
        self.check_refused(Taken("o"), ("find", "x", ["k", "o", "m"]))
        self.check_refused(Taken("m"), ("find", "x", ["pot", *MARKS[:10], "m"]))

    def test_ten_and_eleven_kinds(self):
        self.check_refused(TooMany(10), ("find", "x", MARKS[:9]))
        self.assertIsNone(self.office.do(("find", "x", [*MARKS[:8], "pot", "cup"])))
        self.check_call(TooMany(10), ("find", "y", ["new"]))
        self.assertIsNone(self.office.do(("find", "y", MARKS[:8]), ("find", "z", [])))
        self.check_call(TooMany(10), ("off", "y"), ("find", "y", ["new"]))
        self.assertIsNone(self.office.do(("off", "y"), ("off", "x"), ("find", "x", ["new"])))

    def test_a_kind_is_free_when_its_saying_is_gone(self):
        self.assertIsNone(self.office.do(("withdraw", "n"), ("find", "x", ["n"])))
        self.check_call(Taken("n"), ("say", "dan", "n", None))
        self.assertIsNone(self.office.do(("off", "x"), ("say", "dan", "n", ("first", "a"))))


class OffTest(Refusals):
    def test_unknown_finds_and_finds_in_use(self):
        for value in any_values():
            if value not in ("a", "b", "c"):
                self.check_refused(UnknownFind(value), ("off", value))
        self.check_refused(InUse("m"), ("off", "a"))
        self.check_refused(InUse("o"), ("off", "c"))
        self.check_refused(InUse("n"), ("withdraw", "m"), ("off", "b"))
        self.assertIsNone(self.office.do(("withdraw", "o"), ("off", "c")))
        self.assertEqual(self.office.finds(), ["a", "b"])
        self.office.do(("withdraw", "m"), ("withdraw", "n"), ("off", "a"), ("off", "b"))
        check_raises(self, NoFinds(), self.office.book)


class SayTest(Refusals):
    def test_names(self):
        for value in any_values():
            if value not in ("a", "abcdef", "before"):
                self.check_refused(InvalidName(value), ("say", value, "M", None))
                self.check_refused(InvalidName(value), ("say", "dan", value, None))
        for mark in ("m", "o", "pot", "cup"):
            self.check_refused(Taken(mark), ("say", "dan", mark, None))
        self.check_refused(Taken("new"), ("find", "x", ["new"]), ("say", "dan", "new", ("first", "a")))

    def test_claims(self):
        for value in any_values() + [("same", "a", "a"), ("together", ("b", "a")), ("before", "a", "a"), ["first", "a"]]:
            if not is_claim(value):
                self.check_refused(InvalidClaim(), ("say", "dan", "new", value))
        self.check_refused(UnknownFind("z"), ("say", "dan", "new", ("before", "z", "y")))
        self.check_refused(UnknownFind("y"), ("say", "dan", "new", ("together", ("a", "y", "z"))))
        self.check_refused(UnknownFind("z"), ("say", "dan", "new", ("same", "a", "z")))
        self.check_refused(UnknownFind("pot"), ("say", "dan", "new", ("last", "pot")))

    def test_thirty_and_thirty_one_sayings(self):
        self.office.do(*[("say", "eve", MARKS[at], ("before", "b", "a")) for at in range(27)])
        self.assertEqual(len(self.office), 30)
        self.check_call(TooMany(30), ("say", "eve", "new", None))
        self.check_call(Taken("m"), ("say", "eve", "m", None))
        self.check_call(InvalidName("M"), ("say", "eve", "M", None))
        self.check_call(TooMany(30), ("withdraw", "m"), ("say", "eve", "m", ("first", "a")), ("say", "eve", "new", None))
        self.assertIsNone(self.office.do(("withdraw", "m"), ("say", "eve", "new", ("first", "a"))))

    def test_names_of_one_and_six_letters(self):
        self.office.do(("find", "abcdef", ["z", "yyyyyy"]), ("say", "d", "uvwxyz", ("same", "a", "abcdef")))
        self.check_refused(InvalidName("abcdefg"), ("find", "abcdefg", ()))
        self.check_refused(InvalidName(""), ("say", "d", "", None))
        self.assertEqual(self.office.text().split("\n")[1], "find abcdef yyyyyy z")


class WithdrawAndLeaveTest(Refusals):
    def test_unknown_names(self):
        for value in any_values():
            self.check_refused(UnknownName(value), ("withdraw", value))
            self.check_refused(UnknownName(value), ("leave", value))
        self.check_refused(UnknownName("pot"), ("withdraw", "pot"))
        self.check_refused(UnknownName("dan"), ("withdraw", "dan"))
        self.check_refused(UnknownName("m"), ("leave", "m"))

    def test_sayings_go(self):
        self.office.do(("leave", "dan"))
        self.assertEqual([saying.mark for saying in self.office.sayings()], ["n"])
        self.check_refused(UnknownName("dan"), ("leave", "dan"))
        self.office.do(("withdraw", "n"))
        self.assertEqual(len(self.office), 0)
        self.check_refused(UnknownName("n"), ("withdraw", "n"))
        self.office.undo()
        self.office.undo()
        self.assertEqual(self.office.text(), TEXT)


class InvalidDeedTest(Refusals):
    def test_values_that_are_no_deeds(self):
        for value in more_values():
            self.check_call(InvalidDeed(0), value)
            self.check_call(InvalidDeed(2), ("off", "zz"), ("find", "a", ()), value, None)
        wrong = [("find", "x"), ("find", "x", (), ()), ("off",), ("off", "a", "b"), ("say", "dan", "m"), ("withdraw",),
                 ("say", "dan", "m", ("first", "a"), 1), ("leave", "dan", "eve"), ("undo",), ("Find", "x", ()), ["off", "a"],
                 (("off",), "a"), (["off"], "a"), (None, "a"), ("", "a"), ("off a",)]
        wrong += [("find", "x", value) for value in any_values() if not isinstance(value, (list, tuple))]
        for value in wrong:
            self.check_call(InvalidDeed(0), value)
            self.check_call(InvalidDeed(1), ("say", None, None, None), value)
        self.check_call(InvalidDeed(3), *[("off", "zz")] * 3, ("find", None, "ab"))

    def test_right_forms_are_no_invalid_deeds(self):
        self.assertEqual(sorted(ITEMS), ["find", "leave", "off", "say", "withdraw"])
        self.check_call(InvalidName(None), ("find", None, ["x"]))
        self.check_call(UnknownFind(None), ("off", None))
        self.check_call(InvalidName(None), ("say", None, None, None))
        self.check_call(UnknownName(None), ("withdraw", None))
        self.check_call(UnknownName(None), ("leave", None))

    def test_all_deeds_of_a_call_are_done_or_none(self):
        self.check_call(UnknownFind("z"), ("leave", "dan"), ("find", "x", ["k"]), ("off", "c"), ("off", "z"))
        office = Office()
        check_raises(self, UnknownFind("b"), office.do, ("find", "a", ()), ("say", "dan", "m", ("before", "a", "b")))
        self.assertEqual((office.text(), office.history(), office.journal()), ("", (0, 0), []))
        office.do(("find", "a", ()), ("find", "b", ()), ("say", "dan", "m", ("before", "a", "b")))
        self.assertEqual((office.history(), len(office.journal()[0])), ((1, 0), 3))


if __name__ == "__main__":
    unittest.main()
