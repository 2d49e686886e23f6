import itertools
import unittest

from offices import ReadByHand, drawn_office
from plain import Draws, all_lots, any_values, check_raises, more_values, plain_keeps, plain_right
from threeorders.chains import derived
from threeorders.derivations import is_statement, shows
from threeorders.errors import CannotStand, Clash, InvalidStatement, NoFinds, NotShown, UnknownKept
from threeorders.office import Office
from threeorders.officetexts import read_office

TEXT = "find a pot\nfind b pot urn\nfind c urn\nfind d\nsay dan m before a d\nsay eve n same c d\n"


class KeepTest(unittest.TestCase):
    def test_by_hand(self):
        office = read_office(TEXT)
        self.assertEqual(office.keep(("before", "a", "d")), 0)
        self.assertEqual(office.keep(("lot", ("b", "c", "d"))), 1)
        self.assertEqual(office.keep(("lot", ("d",))), 2)
        self.assertEqual(office.kept(0), [(("before", "a", "c"), "fact", ("m",))])
        self.assertEqual(office.kept(1), [(("lot", ("b", "c")), "word", ("urn",))])
        self.assertEqual(office.kept_statements(), [("before", "a", "c"), ("lot", ("b", "c")), ("lot", ("c",))])
        self.assertEqual([office.is_good(at) for at in range(3)], [True, True, True])
        self.assertEqual(office.keep(("before", "a", "b")), 3)
        self.assertTrue(shows(office.book(), office.facts(), office.kept(3), ("before", "a", "b")))
        self.assertEqual((office.history(), office.text(), office.log()), ((0, 0), TEXT, []))

    def test_against_all_orders(self):
        draws = Draws(2201)
        told = {}
        for _ in range(90):
            office, plain = drawn_office(draws, 16, 4)
            if not plain.held:
                continue
            read = ReadByHand(plain.held, plain.sayings)
            orders, fitting = read.orders()
            finds = sorted(plain.held)
            statements = [("lot", lot) for lot in all_lots(finds)] + [("never",)]
            statements += [("before", x, y) for x, y in itertools.product(finds, repeat=2)]
            many = 0
            for statement in statements:
                right = self.plain_answer(read, orders, fitting, statement)
                told[right] = told.get(right, 0) + 1
                if right == "":
                    self.assertEqual(office.keep(statement), many)
                    self.check_kept(office, read, many, statement)
                    many += 1
                else:
                    with self.assertRaises((NotShown, CannotStand, Clash)) as caught:
                        office.keep(statement)
                    self.assertEqual(caught.exception.code, right)
            self.assertEqual(len(office.kept_statements()), many)
        self.assertEqual(sorted(told), ["", "CannotStand", "Clash", "NotShown"])

    def plain_answer(self, read, orders, fitting, statement):
        """The code of the error of [12], or nothing if the statement is shown."""
        if statement == ("never",):
            return "NotShown" if fitting else ""
        if not orders:
            return "CannotStand"
        if not fitting:
            return "Clash"
        told = read.read(statement)
        if told[0] == "lot":
            return "" if all(plain_keeps(order, told[1]) for order in orders) else "NotShown"
        return "" if all(order.index(told[1]) < order.index(told[2]) for order in fitting) else "NotShown"

    def check_kept(self, office, read, at, statement):
        entries = office.kept(at)
        told = statement if statement == ("never",) else read.read(statement)
        self.assertEqual(entries[-1][0], told)
        self.assertEqual(office.kept_statements()[at], told)
        self.assertTrue(all(plain_right(read.finds, read.words, read.facts, entries, n) for n in range(len(entries))))
        self.assertIs(office.is_good(at), True)
        self.assertEqual(entries, derived(office.book(), office.facts(), told))

    def test_good_across_deeds_undo_and_redo(self):
        office = read_office(TEXT)
        office.keep(("before", "a", "d"))
        office.keep(("lot", ("b", "c")))
        office.keep(("lot", ("a", "b", "c", "d")))
        kept = [office.kept(at) for at in range(3)]

        def goods():
            self.assertEqual([office.kept(at) for at in range(3)], kept)
            self.assertEqual(len(office.kept_statements()), 3)
            return [office.is_good(at) for at in range(3)]
        self.assertEqual(goods(), [True, True, True])
        office.do(("withdraw", "m"))
        self.assertEqual(goods(), [False, True, True])
        office.undo()
        self.assertEqual(goods(), [True, True, True])
        office.redo()
        office.do(("say", "max", "m", ("before", "a", "c")))
        self.assertEqual(goods(), [True, True, True])
        office.do(("withdraw", "n"))
        self.assertEqual(goods(), [True, True, False])
        office.do(("leave", "max"))
        self.assertEqual(goods(), [False, True, False])
        office.do(("off", "a"), ("off", "b"), ("off", "c"), ("off", "d"))
        self.assertEqual(goods(), [False, False, False])
        office.do(("find", "b", ["urn"]), ("find", "c", ["urn"]))
        self.assertEqual(goods(), [False, True, False])
        for _ in range(2):
            office.undo()
        self.assertEqual(goods(), [False, True, False])

    def test_good_though_no_order_fits(self):
        office = read_office(TEXT)
        office.keep(("before", "a", "d"))
        office.do(("say", "eve", "x", ("before", "c", "a")), ("say", "eve", "y", ("before", "c", "d")))
        self.assertIs(office.stands, False)
        self.assertIs(office.is_good(0), True)
        self.assertEqual(office.keep(("never",)), 1)
        self.assertTrue(shows(office.book(), office.facts(), office.kept(1), ("never",)))
        self.assertEqual(office.kept_statements(), [("before", "a", "c"), ("never",)])
        with self.assertRaises(Clash):
            office.keep(("lot", ("a",)))
        office.undo()
        self.assertEqual([office.is_good(0), office.is_good(1)], [True, False])

    def test_forty_kept_derivations(self):
        office = read_office(TEXT)
        for at in range(40):
            self.assertEqual(office.keep(("before", "a", "b") if at & 1 else ("lot", ("b", "c"))), at)
        self.assertEqual(len(office.kept_statements()), 40)
        self.assertEqual(office.kept(39), office.kept(1))
        check_raises(self, UnknownKept(40), office.kept, 40)
        office.kept(3).clear()
        self.assertEqual(office.kept(3), office.kept(1))


class ErrorsTest(unittest.TestCase):
    def test_statements(self):
        office = read_office(TEXT)
        for value in more_values() + [("lot", ("b", "a")), ("lot", ("a", "z")), ("before", "a", "z"), ("before", "z", "a"),
                                      ("first", "a"), ("together", ("a", "b")), ("same", "a", "b"), ["lot", ("a",)]]:
            names = value[1] if is_statement(value) and value[0] == "lot" else value[1:] if is_statement(value) else ("z",)
            if not set(names) <= set("abcd"):
                check_raises(self, InvalidStatement(), office.keep, value)
                check_raises(self, NoFinds(), Office().keep, value)
        check_raises(self, NotShown(), office.keep, ("never",))
        check_raises(self, NotShown(), office.keep, ("before", "c", "d"))
        check_raises(self, NotShown(), office.keep, ("before", "d", "a"))
        check_raises(self, NotShown(), office.keep, ("lot", ("a", "c")))
        self.assertEqual(office.kept_statements(), [])

    def test_statements_where_no_order_fits(self):
        office = read_office("find a p q\nfind b p r\nfind c q r\nsay dan m before a b\n")
        check_raises(self, InvalidStatement(), office.keep, ("lot", ("z",)))
        check_raises(self, CannotStand(("a",), ("b",), ("c",)), office.keep, ("lot", ("a",)))
        self.assertEqual(office.keep(("never",)), 0)
        office = read_office("find a\nfind b\nsay dan m before a b\nsay dan n before b a\n")
        check_raises(self, Clash(["m", "n"]), office.keep, ("before", "a", "b"))
        self.assertEqual(office.keep(("never",)), 0)

    def test_numbers(self):
        office = read_office(TEXT)
        for value in more_values():
            for method in (office.kept, office.is_good, Office().kept, Office().is_good):
                check_raises(self, UnknownKept(value), method, value)
        office.keep(("lot", ("a",)))
        for value in any_values() + [1, 2, -1, 10 ** 12]:
            if isinstance(value, bool) or value != 0:
                check_raises(self, UnknownKept(value), office.kept, value)
                check_raises(self, UnknownKept(value), office.is_good, value)
        self.assertIs(office.is_good(0), True)


if __name__ == "__main__":
    unittest.main()
