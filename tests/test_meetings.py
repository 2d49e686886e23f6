import itertools
import unittest

from plain import TWELVE, Draws, all_lots, check_raises, more_values
from threeorders.errors import InvalidKind, InvalidPair, TooFew, TooMany, UnknownName
from threeorders.meetings import Meetings, meetings_of
from threeorders.tables import Table


def plain_greatest(kinds, pairs):
    """The greatest lots by [36]."""
    meet = {frozenset(pair) for pair in pairs}
    lots = [lot for lot in all_lots(kinds) if all(frozenset(pair) in meet for pair in itertools.combinations(lot, 2))]
    return sorted(lot for lot in lots if not any(
        all(frozenset((kind, other)) in meet for other in lot) for kind in kinds if kind not in lot))


def drawn_meetings(draws, most_kinds):
    kinds = draws.order(TWELVE[:1 + draws.below(most_kinds)])
    pairs = [(x, y) for x in kinds for y in kinds if x != y and draws.below(3) == 0]
    return list(kinds), pairs + pairs[:2] + [pair[::-1] for pair in pairs[:3]]


class MeetingsTest(unittest.TestCase):
    def test_by_hand(self):
        meetings = Meetings(["r", "p", "s", "q"], [("q", "p"), ("p", "q"), ("q", "r"), ("q", "r"), ("r", "p")])
        self.assertEqual(meetings.kinds(), ["p", "q", "r", "s"])
        self.assertEqual(meetings.pairs(), [("p", "q"), ("p", "r"), ("q", "r")])
        self.assertEqual(meetings.greatest_lots(), [("p", "q", "r"), ("s",)])
        self.assertEqual([meetings.beside(kind) for kind in "pqrs"], [["q", "r"], ["p", "r"], ["p", "q"], []])
        self.assertEqual(len(meetings), 4)
        self.assertEqual(repr(meetings), "Meetings(4 kinds, 3 pairs)")
        self.assertEqual(repr(Meetings(["p"])), "Meetings(1 kinds, 0 pairs)")

    def test_against_a_going_through_of_all_lots(self):
        draws = Draws(1801)
        sizes = {}
        for _ in range(150):
            kinds, pairs = drawn_meetings(draws, 8)
            meetings = Meetings(kinds, pairs)
            self.assertEqual(meetings.kinds(), sorted(kinds))
            self.assertEqual(meetings.pairs(), sorted({tuple(sorted(pair)) for pair in pairs}))
            self.assertEqual(meetings.greatest_lots(), plain_greatest(kinds, pairs))
            sizes[max(len(lot) for lot in meetings.greatest_lots())] = True
            for x, y in itertools.product(kinds, repeat=2):
                self.assertIs(meetings.meet(x, y), (x, y) in pairs or (y, x) in pairs)
            for x in kinds:
                self.assertEqual(meetings.beside(x), sorted(y for y in kinds if (x, y) in pairs or (y, x) in pairs))
        self.assertTrue(len(sizes) > 4, sizes)

    def test_equality(self):
        one = Meetings(["p", "q", "r"], [("p", "q"), ("r", "q")])
        self.assertEqual(one, Meetings(["r", "q", "p"], [("q", "r"), ("q", "p"), ("p", "q")]))
        for other in (Meetings(["p", "q", "r"], [("p", "q")]), Meetings(["p", "q", "r", "s"], [("p", "q"), ("r", "q")]),
                      Meetings(["p", "q", "s"], [("p", "q"), ("s", "q")]), ["p", "q", "r"], None, Table([("p", [])])):
            self.assertFalse(one == other)
            self.assertTrue(one != other)

    def test_ten_kinds(self):
        kinds = TWELVE[:10]
        pairs = list(itertools.combinations(kinds, 2))
        self.assertEqual(Meetings(kinds, pairs).greatest_lots(), [tuple(kinds)])
        self.assertEqual(Meetings(kinds).greatest_lots(), [(kind,) for kind in kinds])
        self.assertEqual(Meetings(kinds, pairs * 8).pairs(), pairs)
        # The pairs that do not meet are five apart from each other: each greatest lot has one kind of each.
        fewer = [pair for pair in pairs if pair not in list(zip(kinds[0::2], kinds[1::2]))]
        self.assertEqual(Meetings(kinds, fewer).greatest_lots(), sorted(itertools.product(*zip(kinds[0::2], kinds[1::2]))))
        check_raises(self, TooMany(10), Meetings, TWELVE[:11])

    def test_lists_are_copied(self):
        kinds, pairs = ["p", "q", "r"], [("p", "q")]
        meetings = Meetings(kinds, pairs)
        kinds.clear()
        pairs.append(("q", "r"))
        for told in (meetings.kinds(), meetings.pairs(), meetings.beside("p"), meetings.greatest_lots()):
            told.clear()
        self.assertEqual((meetings.kinds(), meetings.pairs(), meetings.beside("p")), (["p", "q", "r"], [("p", "q")], ["q"]))
        self.assertEqual(meetings.greatest_lots(), [("p", "q"), ("r",)])

    def test_tuples_and_named_arguments(self):
        meetings = Meetings(pairs=(("q", "p"),), kinds=("q", "p"))
        self.assertEqual(meetings, Meetings(["p", "q"], [("p", "q")]))
        self.assertIs(meetings.meet(one="p", other="q"), True)
        self.assertEqual(meetings.beside(kind="p"), ["q"])


class WrongValuesTest(unittest.TestCase):
    def test_kinds(self):
        for value in more_values():
            if not isinstance(value, (list, tuple)) or len(value) == 0:
                check_raises(self, InvalidKind(-1), Meetings, value, None)
            if not isinstance(value, str) or value not in ("a", "abcdef", "before"):
                check_raises(self, InvalidKind(1), Meetings, ["k", value, value], None)
        check_raises(self, InvalidKind(2), Meetings, ["k", "m", "k", "K"], 1)
        check_raises(self, TooMany(10), Meetings, [None] * 11, None)
        check_raises(self, InvalidKind(0), Meetings, ["K"] * 10, None)

    def test_pairs(self):
        for value in more_values():
            if not isinstance(value, (list, tuple)):
                check_raises(self, InvalidPair(-1), Meetings, ["k", "m"], value)
            if value not in [("a", "b"), ("b", "a")]:
                check_raises(self, InvalidPair(1), Meetings, ["a", "b"], [("b", "a"), value, None])
        for value in (("k", "k"), ("k", "z"), ("z", "k"), ["k", "m"], ("k", "m", "n"), ("k",), ("k", ["m"]), (("k",), "m")):
            check_raises(self, InvalidPair(0), Meetings, ["k", "m", "n"], [value, ("k", "k")])
            check_raises(self, InvalidPair(2), Meetings, ["k", "m", "n"], (("k", "m"), ("m", "k"), value))

    def test_meet_and_beside(self):
        meetings = Meetings(["k", "m", "n"], [("k", "m")])
        for value in more_values() + ["k", "z"]:
            self.assertIs(meetings.meet("k", value), False)
            self.assertIs(meetings.meet(value, "k"), False)
            self.assertIs(meetings.meet(value, value), False)
            if value != "k":
                check_raises(self, UnknownName(value), meetings.beside, value)


class TablesTest(unittest.TestCase):
    def test_meetings_of_a_table(self):
        table = Table([("a", ["p", "q"]), ("b", ["q", "r"]), ("c", []), ("d", ["s"])])
        self.assertEqual(meetings_of(table), Meetings(["p", "q", "r", "s"], [("p", "q"), ("q", "r")]))
        self.assertEqual(meetings_of(table=Table([("a", ["p"])])), Meetings(["p"]))

    def test_drawn_tables(self):
        draws = Draws(1811)
        for _ in range(100):
            holdings = [(name, list(draws.lot(TWELVE[:7]))[:3] if draws.below(3) else []) for name in TWELVE[:5]]
            kinds = sorted({kind for _, held in holdings for kind in held})
            if kinds:
                pairs = {pair for _, held in holdings for pair in itertools.combinations(sorted(held), 2)}
                self.assertEqual(meetings_of(Table(holdings)).kinds(), kinds)
                self.assertEqual(meetings_of(Table(holdings)).pairs(), sorted(pairs))

    def test_many_kinds_and_none(self):
        table = Table([(name, TWELVE[:10]) for name in TWELVE])
        self.assertEqual(meetings_of(table).pairs(), list(itertools.combinations(TWELVE[:10], 2)))
        check_raises(self, TooFew(1), meetings_of, Table([("a", [])]))
        check_raises(self, TooFew(1), meetings_of, Table([(name, ()) for name in TWELVE]))


if __name__ == "__main__":
    unittest.main()
