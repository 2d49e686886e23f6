import itertools
import unittest

from plain import TWELVE, Draws, check_raises, more_values
from threeorders.bars import is_standing
from threeorders.books import book_of
from threeorders.errors import NoTable, Same, UnknownName
from threeorders.meetings import Meetings, meetings_of
from threeorders.tabled import is_ring_without_chords, ring_without_chords, table_of, three_apart, way_past
from threeorders.tables import Table

RING = Meetings(list("pqrs"), [("p", "q"), ("q", "r"), ("r", "s"), ("s", "p")])
# Three legs of two kinds on one kind: the feet are three kinds apart.
LEGS = Meetings(list("abcxyz") + ["mid"], [("mid", "x"), ("mid", "y"), ("mid", "z"), ("x", "a"), ("y", "b"), ("z", "c")])


def is_plain_ring(meetings, value):
    """Whether a tuple of kinds is a ring without chords by [35]."""
    if len(value) < 4 or len(set(value)) < len(value):
        return False
    many = len(value)
    return all(
        meetings.meet(value[i], value[j]) == ((j - i) in (1, many - 1)) for i, j in itertools.combinations(range(many), 2))


def has_plain_ring(meetings):
    kinds = meetings.kinds()
    return any(is_plain_ring(meetings, value) for many in range(4, len(kinds) + 1)
               for value in itertools.permutations(kinds, many))


def is_way(meetings, way, one, other, past):
    """Whether a list is a way from one kind to another one past a third one by [35]."""
    return way[0] == one and way[-1] == other and len(set(way)) == len(way) and past not in way \
        and all(meetings.meet(p, q) for p, q in zip(way, way[1:])) and not any(meetings.meet(past, p) for p in way)


def has_way(meetings, one, other, past):
    inner = [kind for kind in meetings.kinds() if kind not in (one, other, past)]
    return any(is_way(meetings, [one, *middle, other], one, other, past)
               for many in range(len(inner) + 1) for middle in itertools.permutations(inner, many))


def drawn_meetings(draws, most_kinds):
    kinds = TWELVE[:1 + max(draws.below(most_kinds), draws.below(most_kinds))]
    often = 2 + draws.below(3)
    return Meetings(kinds, [pair for pair in itertools.combinations(kinds, 2) if draws.below(often) == 0])


class SmallMeetingsTest(unittest.TestCase):
    def test_rings(self):
        draws = Draws(1901)
        told = [0, 0]
        for _ in range(80):
            meetings = drawn_meetings(draws, 6)
            found = ring_without_chords(meetings)
            self.assertIs(found is not None, has_plain_ring(meetings))
            told[found is not None] += 1
            if found is not None:
                self.assertTrue(type(found) is tuple and is_plain_ring(meetings, found))
                self.assertIs(is_ring_without_chords(meetings, found), True)
            for many in range(1, 6):
                for value in itertools.islice(itertools.permutations(meetings.kinds(), many), 60):
                    self.assertIs(is_ring_without_chords(meetings, value), is_plain_ring(meetings, value))
        self.assertTrue(min(told) > 10, told)

    def test_ways_and_three_apart(self):
        draws = Draws(1903)
        told = [0, 0]
        for _ in range(70):
            meetings = drawn_meetings(draws, 6)
            kinds = meetings.kinds()
            for names in itertools.permutations(kinds, 3):
                way = way_past(meetings, *names)
                self.assertIs(way is not None, has_way(meetings, *names))
                self.assertTrue(way is None or type(way) is list and is_way(meetings, way, *names))
            apart = [(p, q, r) for p, q, r in itertools.combinations(kinds, 3) if has_way(meetings, p, q, r)
                     and has_way(meetings, p, r, q) and has_way(meetings, q, r, p)]
            self.assertEqual(three_apart(meetings), min(apart, default=None))
            told[bool(apart)] += 1
        self.assertTrue(told[0] > 10, told)

    def test_told_tables(self):
        draws = Draws(1907)
        told = {}
        for _ in range(150):
            meetings = drawn_meetings(draws, 7)
            ring, triple = ring_without_chords(meetings), three_apart(meetings)
            told[ring is None, triple is None] = True
            if ring is not None:
                check_raises(self, NoTable("ring", ring), table_of, meetings)
            elif triple is not None:
                check_raises(self, NoTable("apart", triple), table_of, meetings)
            else:
                lots = meetings.greatest_lots()
                lines = [" ".join(["find", name, *lot]) + "\n" for name, lot in zip(TWELVE, lots)]
                table = table_of(meetings)
                self.assertEqual(table.text(), "".join(lines))
                self.assertEqual(meetings_of(table), meetings)
                self.assertTrue(len(table) <= len(meetings) and is_standing(book_of(table)))
        self.assertTrue(len(told) >= 3, told)

    def test_tables_whose_book_stands_have_no_ring_and_no_triple(self):
        draws = Draws(1909)
        for _ in range(80):
            order = draws.order(TWELVE[:3 + draws.below(9)])
            lots = []
            for _ in range(1 + draws.below(8)):
                low = draws.below(len(order))
                lots.append(order[low:low + 1 + draws.below(4)])
            table = Table([(name, [TWELVE[at] for at, lot in enumerate(lots) if name in lot]) for name in order])
            meetings = meetings_of(table)
            self.assertEqual((ring_without_chords(meetings), three_apart(meetings)), (None, None))
            self.assertEqual(meetings_of(table_of(meetings)), meetings)


class ByHandTest(unittest.TestCase):
    def test_the_examples(self):
        meetings = Meetings(["p", "q", "r"], [("p", "q"), ("q", "r")])
        self.assertEqual(table_of(meetings).text(), "find a p q\nfind b q r\n")
        with self.assertRaises(NoTable) as caught:
            table_of(meetings=RING)
        self.assertEqual(caught.exception.why, "ring")
        self.assertTrue(is_plain_ring(RING, caught.exception.found))

    def test_a_ring(self):
        found = ring_without_chords(meetings=RING)
        self.assertEqual(sorted(found), list("pqrs"))
        for value in (tuple("pqrs"), tuple("qrsp"), tuple("srqp")):
            self.assertIs(is_ring_without_chords(meetings=RING, value=value), True)
        for value in (tuple("prqs"), tuple("pqr"), tuple("pqrsp"), tuple("pqpq"), list("pqrs"), tuple("pqrz")):
            self.assertIs(is_ring_without_chords(RING, value), False)
        chord = Meetings(list("pqrs"), RING.pairs() + [("p", "r")])
        self.assertIsNone(ring_without_chords(chord))
        self.assertIs(is_ring_without_chords(chord, tuple("pqrs")), False)
        self.assertEqual(table_of(chord).text(), "find a p q r\nfind b p r s\n")

    def test_three_legs(self):
        self.assertIsNone(ring_without_chords(LEGS))
        self.assertEqual(way_past(LEGS, "a", "b", "c"), ["a", "x", "mid", "y", "b"])
        self.assertEqual(way_past(meetings=LEGS, one="b", other="a", past="z"), None)
        self.assertEqual(three_apart(meetings=LEGS), ("a", "b", "c"))
        check_raises(self, NoTable("apart", ("a", "b", "c")), table_of, LEGS)
        both = Meetings(LEGS.kinds() + ["n", "o"], LEGS.pairs() + [("n", "o"), ("n", "x"), ("o", "a")])
        self.assertEqual(three_apart(both), ("a", "b", "c"))
        check_raises(self, NoTable("ring", ring_without_chords(both)), table_of, both)

    def test_one_kind_and_ten(self):
        one = Meetings(["k"])
        self.assertEqual((ring_without_chords(one), three_apart(one), table_of(one).text()), (None, None, "find a k\n"))
        kinds = TWELVE[:10]
        ring = Meetings(kinds, list(zip(kinds, kinds[1:] + kinds[:1])))
        found = ring_without_chords(ring)
        self.assertTrue(len(found) == 10 and is_plain_ring(ring, found))
        self.assertTrue(is_ring_without_chords(ring, tuple(kinds)))
        self.assertEqual(way_past(ring, "a", "e", "c"), ["a", "j", "i", "h", "g", "f", "e"])
        row = Meetings(kinds, list(zip(kinds, kinds[1:])))
        self.assertEqual(table_of(row).text(), "".join(f"find {p} {p} {q}\n" for p, q in zip(kinds, kinds[1:])))
        self.assertEqual(table_of(Meetings(kinds)).text(), "".join(f"find {p} {p}\n" for p in kinds))
        self.assertEqual(table_of(Meetings(kinds, list(itertools.combinations(kinds, 2)))).text(),
                         "find a " + " ".join(kinds) + "\n")

    def test_ways_are_new(self):
        way_past(LEGS, "a", "b", "c").clear()
        self.assertEqual(len(way_past(LEGS, "a", "b", "c")), 5)


class WrongValuesTest(unittest.TestCase):
    def test_no_rings(self):
        for value in more_values() + [("p", "q", "r", None), (("p",), "q", "r", "s"), ("p", "q", "r", ["s"]), "pqrs"]:
            self.assertIs(is_ring_without_chords(RING, value), False)

    def test_ways(self):
        for value in more_values():
            check_raises(self, UnknownName(value), way_past, RING, value, None, "p")
            check_raises(self, UnknownName(value), way_past, RING, "p", value, [])
            check_raises(self, UnknownName(value), way_past, RING, "p", "p", value)
        check_raises(self, Same("p"), way_past, RING, "p", "p", "p")
        check_raises(self, Same("p"), way_past, RING, "p", "q", "p")
        check_raises(self, Same("q"), way_past, RING, "p", "q", "q")


if __name__ == "__main__":
    unittest.main()
