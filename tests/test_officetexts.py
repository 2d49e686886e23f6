import unittest

from offices import drawn_office
from plain import MARKS, TWELVE, Draws, any_values, check_raises, more_values
from threeorders.errors import InUse, InvalidDeed, InvalidText, Taken, UnknownFind
from threeorders.office import Office
from threeorders.officetexts import played, read_journal, read_office, write_journal, write_office

TEXT = "find a cup pot\nfind b pot\nfind c\nsay dan m before a b\nsay eve n together a b\nsay dan o same a c\n"
JOURNAL = [
    [("find", "b", ("pot", "cup")), ("find", "a", ())],
    [("say", "dan", "m", ("together", ("a", "b")))],
    [("withdraw", "m"), ("say", "eve", "n", ("first", "a")), ("leave", "eve"), ("off", "a")],
]
JOURNAL_TEXT = (
    "step\nfind b pot cup\nfind a\nstep\nsay dan m together a b\nstep\nwithdraw m\nsay eve n first a\nleave eve\noff a\n"
)


class OfficeTextsTest(unittest.TestCase):
    def test_by_hand(self):
        office = read_office(TEXT)
        self.assertEqual(write_office(office), TEXT)
        self.assertEqual(office.finds(), ["a", "b", "c"])
        self.assertEqual([saying.claim for saying in office.sayings()],
                         [("before", "a", "b"), ("together", ("a", "b")), ("same", "a", "c")])
        self.assertEqual((office.history(), office.journal(), office.kept_statements(), office.log()), ((0, 0), [], [], []))
        empty = read_office(text="")
        self.assertTrue(empty == Office() and type(empty) is Office)
        self.assertEqual(write_office(office=empty), "")
        office.do(("leave", "dan"))
        self.assertEqual(office.history(), (1, 0))
        office.undo()
        self.assertEqual(office.text(), TEXT)

    def test_there_and_back(self):
        draws = Draws(2401)
        for _ in range(80):
            office, plain = drawn_office(draws, 20)
            text = write_office(office)
            self.assertEqual(text, plain.text())
            read = read_office(text)
            self.assertTrue(read == office)
            self.assertEqual((write_office(read), read.history()), (text, (0, 0)))
            self.assertEqual(read.heads(), office.heads())

    def check_fault(self, line, why, text):
        check_raises(self, InvalidText(line, why), read_office, text)

    def test_form(self):
        for value in any_values():
            if not isinstance(value, str):
                self.check_fault(0, "form", value)
            elif value != "":
                self.check_fault(0, "form", value)
        for line in ("", "find", "find ", " find a", "find A", "find a  b", "find a b b", "find a c b", "find a ", "finds a",
                     "word m a", "Find a", "find abcdefg", "step", "off a", "fact m first a", "say", "say dan", "say dan m",
                     "say dan m first", "say dan m first a b", "say dan m before a a", "say dan m together", "say Dan m first a",
                     "say dan M first a", "say dan m First a", "say dan m together b a", "say dan m same a a", "say  m first a",
                     "say dan m never", "say dan m first a ", "say dan m  first a"):
            self.check_fault(0, "form", line + "\n")
            self.check_fault(2, "form", "find a\nfind b\n" + line + "\nfind A\n")
            self.check_fault(3, "form", "find a\nfind b\nsay dan x first a\n" + line + "\n")
        self.check_fault(2, "form", "find a\nsay dan m first a\nfind b\n")
        self.check_fault(2, "form", "find b\nsay dan m first b\nfind a\n")

    def test_line_feeds(self):
        self.check_fault(0, "form", "find a")
        self.check_fault(1, "form", "find a\nfind b")
        self.check_fault(1, "form", "find a\nsay dan m first a")
        self.check_fault(2, "form", "find a\nfind b\n\n")
        self.check_fault(2, "form", "find a\nfind b\n ")
        self.check_fault(0, "form", "\n")
        self.check_fault(0, "form", " ")

    def test_many(self):
        twelve = "".join(f"find {name}\n" for name in TWELVE)
        self.assertEqual(len(read_office(twelve).finds()), 12)
        for line in ("find m", "find a", "find a k"):
            self.check_fault(12, "many", twelve + line + "\n")
        self.check_fault(12, "form", twelve + "find A\n")
        ten = "find a " + " ".join(sorted(MARKS[:10])) + "\n"
        self.assertEqual(len(read_office(ten + "find b ma\n").kinds_of("a")), 10)
        self.check_fault(1, "many", ten + "find b zz\n")
        self.check_fault(1, "many", ten + "find a zz\n")
        thirty = "find a\nfind b\n" + "".join(f"say dan {mark} before b a\n" for mark in MARKS[:30])
        self.assertEqual(len(read_office(thirty)), 30)
        for line in ("say dan new first a", "say dan ma first a", "say dan new first z"):
            self.check_fault(32, "many", thirty + line + "\n")
        self.check_fault(32, "form", thirty + "say dan new same a a\n")
        self.check_fault(32, "form", thirty + "find c\n")

    def test_order_double_and_unknown(self):
        self.check_fault(1, "order", "find b\nfind a\n")
        self.check_fault(1, "order", "find b\nfind b\n")
        self.check_fault(3, "double", "find a pot\nfind b\nsay dan m first a\nsay eve m first b\n")
        self.check_fault(2, "double", "find a pot\nfind b cup\nsay dan cup first z\n")
        self.check_fault(3, "double", "find a pot\nfind b\nsay dan m first a\nsay eve m first z\n")
        self.check_fault(1, "unknown", "find a\nsay dan m first b\n")
        self.check_fault(1, "unknown", "find a\nsay dan m together a m\n")
        self.check_fault(0, "unknown", "say dan m first a\nfind a\n")
        self.check_fault(2, "unknown", "find a\nfind b\nsay dan m same b c\nsay\n")

    def test_names_of_one_and_six_letters(self):
        text = "find a uvwxyz\nfind abcdef\nsay d mnopqr before abcdef a\nsay abcdef z last a\n"
        self.assertEqual(read_office(text).text(), text)


class JournalTextsTest(unittest.TestCase):
    def test_by_hand(self):
        self.assertEqual(write_journal(JOURNAL), JOURNAL_TEXT)
        self.assertEqual(read_journal(JOURNAL_TEXT), JOURNAL)
        self.assertEqual((write_journal(journal=[]), read_journal(text="")), ("", []))
        self.assertEqual(write_journal(([("find", "a", ["q", "p"])],)), "step\nfind a q p\n")
        self.assertEqual(read_journal("step\nfind a q p q\n"), [[("find", "a", ("q", "p", "q"))]])
        self.assertEqual(read_journal("step\noff a\nstep\nwithdraw abcdef\nleave b\n"),
                         [[("off", "a")], [("withdraw", "abcdef"), ("leave", "b")]])

    def test_nothing_else_is_looked_at(self):
        text = "step\nfind b k k k\nfind a " + " ".join(MARKS[:20]) + "\nfind b\noff z\nsay dan m first z\nsay dan m last z\n"
        self.assertEqual(write_journal(read_journal(text)), text)
        many = "step\n" + "".join(f"find {mark}\n" for mark in MARKS) + "step\nleave x\n" * 50
        self.assertEqual(len(read_journal(many)), 51)

    def test_faults(self):
        for value in any_values():
            if not isinstance(value, str) or value != "":
                check_raises(self, InvalidText(0, "form"), read_journal, value)
        for line in ("", "steps", "step ", " step", "step step", "find", "find A", "find a  b", "find a B", "find a ", "off",
                     "off a b", "off A", "withdraw", "withdraw m n", "leave", "leave ", "undo", "say dan m", "say dan m first",
                     "say dan m first a b", "say dan m same a a", "say dan m together b a", "say D m first a", "say d M first a",
                     "Off a", "say dan m lot a", "say"):
            check_raises(self, InvalidText(0, "form"), read_journal, line + "\n")
            check_raises(self, InvalidText(1, "form"), read_journal, "step\n" + line + "\n")
            check_raises(self, InvalidText(2, "form"), read_journal, "step\noff a\n" + line + "\nstep\n\n")
            check_raises(self, InvalidText(3, "form"), read_journal, "step\noff a\nstep\n" + line + "\noff a\n")

    def test_steps_without_deeds(self):
        for line, text in (
            (1, "step\n"), (3, "step\noff a\nstep\n"), (1, "step\nstep\n"), (1, "step\nstep\noff a\n"), (0, "off a\n"),
            (0, "off a\nstep\noff a\n"), (3, "step\noff a\nstep\nstep\n"), (0, "step"), (1, "step\noff a"), (2, "step\noff a\nstep"),
            (1, "step\nstep"), (2, "step\noff a\n\n"), (2, "step\noff a\n "), (1, "step\n\n"), (1, "step\n "),
        ):
            check_raises(self, InvalidText(line, "form"), read_journal, text)

    def test_journals_of_offices_there_and_back(self):
        draws = Draws(2403)
        for _ in range(60):
            office, plain = drawn_office(draws, 20)
            text = write_journal(office.journal())
            self.assertEqual(read_journal(text), plain.done)
            again = played(read_journal(text))
            self.assertTrue(again == office)
            self.assertEqual((again.history(), again.journal()), ((len(plain.done), 0), office.journal()))
            office.undo()
            self.assertEqual(write_journal(office.journal()), write_journal(plain.done[:-1]))

    def test_returned_lists_are_new(self):
        read_journal(JOURNAL_TEXT)[0].clear()
        journal = read_journal(JOURNAL_TEXT)
        office = played(journal)
        journal[0].clear()
        journal.clear()
        self.assertEqual(office.journal(), JOURNAL)
        self.assertEqual(office.history(), (3, 0))


class PlayedTest(unittest.TestCase):
    def test_one_call_for_each_step(self):
        office = played(journal=JOURNAL)
        self.assertEqual((office.text(), office.history()), ("find b cup pot\n", (3, 0)))
        office.undo()
        self.assertEqual(office.text(), "find a\nfind b cup pot\nsay dan m together a b\n")
        self.assertTrue(played([]) == Office() and played([]).history() == (0, 0))
        self.assertEqual(played([[("find", "a", [])], []]).history(), (1, 0))
        self.assertEqual(played(([("find", "a", ["p", "q"])],)).journal(), [[("find", "a", ("p", "q"))]])

    def test_errors(self):
        check_raises(self, Taken("a"), played, [[("find", "a", ())], [("find", "a", ())]])
        check_raises(self, InUse("m"), played, [[("find", "a", ()), ("say", "d", "m", ("first", "a")), ("off", "a")]])
        check_raises(self, UnknownFind("z"), played, read_journal("step\noff z\n"))
        for value in more_values():
            check_raises(self, InvalidDeed(1), played, [[("find", "a", ())], [("off", "a"), value]])


if __name__ == "__main__":
    unittest.main()
