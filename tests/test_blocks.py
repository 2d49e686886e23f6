import itertools
import unittest

from plain import (
    MARKS, TWELVE, Draws, all_lots, any_values, as_lots, has_bar, is_bar, plain_blocks, plain_keeps, plain_orders,
)
from threeorders.blocks import Blocks, blocks_of
from threeorders.books import Book
from threeorders.derivations import first_fault, shortened, shows
from threeorders.errors import CannotStand, DuplicateName, InvalidFind, InvalidLot, InvalidName, NotABlock, TooMany


def state_of(gathering):
    return (gathering.finds(), gathering.words(), gathering.blocks(), len(gathering), repr(gathering),
            list(gathering.entries()), [gathering.derivation(lot) for lot in gathering.blocks()])


def gathered(finds, words):
    gathering = Blocks(finds)
    for mark, lot in words:
        gathering.put(mark, lot)
    return gathering


class ExamplesTest(unittest.TestCase):
    def test_the_book_that_stands(self):
        book = Book.read("finds a b c d e\nword pot a b c\nword urn b c d\n")
        blocks = [("a",), ("a", "b", "c"), ("a", "b", "c", "d"), ("a", "b", "c", "d", "e"), ("b",), ("b", "c"),
                  ("b", "c", "d"), ("c",), ("d",), ("e",)]
        self.assertEqual(blocks_of(book), blocks)
        self.assertEqual(blocks_of(book=book), blocks)
        self.assertEqual(repr(gathered(book.finds(), book.words())), "Blocks(10 blocks)")

    def test_the_book_that_does_not_stand(self):
        lots = [("a", "b"), ("b", "c"), ("b", "d")]
        with self.assertRaises(CannotStand) as caught:
            blocks_of(Book(["a", "b", "c", "d"], zip_words(lots)))
        bar = [caught.exception.one, caught.exception.two, caught.exception.three]
        self.assertEqual(bar, sorted(bar))
        self.assertTrue(is_bar(plain_blocks("abcd", lots), bar))

    def test_three_lots_that_are_the_bar(self):
        with self.assertRaises(CannotStand) as caught:
            blocks_of(Book(["a", "b", "c"], zip_words([("a", "b"), ("b", "c"), ("a", "c")])))
        bar = (caught.exception.one, caught.exception.two, caught.exception.three)
        self.assertEqual(bar, (("a",), ("b",), ("c",)))

    def test_edges(self):
        self.assertEqual(Blocks(["a"]).blocks(), [("a",)])
        self.assertEqual(repr(Blocks(["a"])), "Blocks(1 blocks)")
        self.assertEqual(Blocks(finds=("b", "a")).blocks(), [("a",), ("a", "b"), ("b",)])
        self.assertEqual(Blocks(["b", "a"]).finds(), ["a", "b"])
        self.assertEqual(len(Blocks(TWELVE)), 13)
        self.assertEqual(blocks_of(Book(["a"], [("m", ("a",))])), [("a",)])


def zip_words(lots):
    return list(zip(MARKS, lots))


class PlainClosingTest(unittest.TestCase):
    def test_small_books(self):
        draws = Draws(11)
        standing = 0
        for _ in range(700):
            finds, words = draws.book(6, 6)
            lots = [lot for _, lot in words]
            plain = plain_blocks(finds, lots)
            orders = plain_orders(finds, lots)
            self.assertIs(has_bar(plain), not orders)
            standing += bool(orders)
            if orders:
                self.check_standing(finds, words, plain, orders)
            else:
                self.check_barred(finds, words, plain)
        self.assertTrue(150 < standing < 650, standing)

    def check_standing(self, finds, words, plain, orders):
        expected = as_lots(plain)
        self.assertEqual(blocks_of(Book(finds, words)), expected)
        self.assertEqual(gathered(finds, words[::-1]).blocks(), expected)
        self.assertEqual(gathered(finds[::-1], words).blocks(), expected)
        self.assertTrue(len(expected) <= len(finds) * (len(finds) + 1) // 2)
        kept = [lot for lot in all_lots(finds) if all(plain_keeps(order, lot) for order in orders)]
        self.assertEqual(sorted(kept), expected)

    def check_barred(self, finds, words, plain):
        with self.assertRaises(CannotStand) as caught:
            blocks_of(Book(finds, words))
        bar = [caught.exception.one, caught.exception.two, caught.exception.three]
        self.assertEqual(bar, sorted(bar))
        self.assertTrue(all(isinstance(lot, tuple) and list(lot) == sorted(lot) and lot for lot in bar))
        self.assertTrue(is_bar(plain, bar), (finds, words, bar))

    def test_gatherings_word_by_word(self):
        draws = Draws(23)
        refused = 0
        for _ in range(150):
            finds, words = draws.book(6, 9)
            gathering = Blocks(finds[::-1])
            taken = []
            for mark, lot in words:
                old = gathering.blocks()
                state = state_of(gathering)
                plain = plain_blocks(finds, [lot for _, lot in taken] + [lot])
                if has_bar(plain):
                    refused += 1
                    self.check_refused(gathering, mark, lot, plain)
                    self.assertEqual(state_of(gathering), state)
                else:
                    new = [block for block in as_lots(plain) if block not in old]
                    self.assertEqual(gathering.put(mark, lot), new)
                    taken.append((mark, lot))
                self.check_gathering(gathering, finds, taken)
        self.assertTrue(refused > 50, refused)

    def check_refused(self, gathering, mark, lot, plain):
        with self.assertRaises(CannotStand) as caught:
            gathering.put(mark, lot)
        bar = [caught.exception.one, caught.exception.two, caught.exception.three]
        self.assertEqual(bar, sorted(bar))
        self.assertTrue(is_bar(plain, bar))

    def check_gathering(self, gathering, finds, taken):
        blocks = as_lots(plain_blocks(finds, [lot for _, lot in taken]))
        self.assertEqual((gathering.finds(), gathering.words()), (finds, taken))
        self.assertEqual(gathering.blocks(), blocks)
        self.assertEqual((len(gathering), repr(gathering)), (len(blocks), f"Blocks({len(blocks)} blocks)"))
        for lot in all_lots(finds):
            self.assertIs(lot in gathering, lot in blocks)
        check_entries(self, gathering)
        check_derivations(self, gathering)


def check_entries(test, gathering):
    entries = list(gathering.entries())
    test.assertEqual(sorted(statement[1] for statement, _, _ in entries), gathering.blocks())
    test.assertTrue(all(statement[0] == "lot" for statement, _, _ in entries))
    test.assertIsNone(first_fault(Book(gathering.finds(), gathering.words()), [], entries))
    for many in range(0, len(entries), 5):
        asked = gathering.entries()
        test.assertEqual([next(asked) for _ in range(many)], entries[:many])
    test.assertEqual(list(gathering.entries()), entries)


def check_derivations(test, gathering):
    book = Book(gathering.finds(), gathering.words())
    for block in gathering.blocks():
        entries = gathering.derivation(block)
        test.assertIs(shows(book, [], entries, ("lot", block)), True)
        test.assertEqual(shortened(entries), entries)
        statements = [statement for statement, _, _ in entries]
        test.assertEqual(len(set(statements)), len(statements))
        test.assertEqual(gathering.derivation(lot=block), entries)


class TwelveFindsTest(unittest.TestCase):
    def test_neighbours_of_one_order(self):
        order = tuple("falcbkdjeigh")
        lots = [tuple(sorted(order[at:at + 2])) for at in range(11)]
        gathering = gathered(TWELVE, zip_words(lots))
        expected = sorted({tuple(sorted(order[low:high])) for low in range(12) for high in range(low + 1, 13)})
        self.assertEqual(gathering.blocks(), expected)
        self.assertEqual(len(gathering), 78)
        self.assertEqual(blocks_of(Book(TWELVE, zip_words(lots))), expected)
        check_entries(self, gathering)
        check_derivations(self, gathering)

    def test_forty_words(self):
        draws = Draws(31)
        for _ in range(12):
            gathering = Blocks(TWELVE)
            refused = []
            while len(gathering.words()) < 40:
                mark = MARKS[len(gathering.words())]
                lot = draws.lot(TWELVE)
                low = draws.below(12)
                if draws.below(3):
                    lot = tuple(TWELVE[low:low + 1 + draws.below(12 - low)])
                try:
                    gathering.put(mark, lot)
                except CannotStand as error:
                    refused.append((lot, error))
            self.check_closed(gathering)
            for lot, error in refused:
                self.check_bar_of_twelve(gathering, lot, error)
            check_derivations(self, gathering)
            words = gathering.words()
            self.assertEqual(blocks_of(Book(TWELVE, words)), gathering.blocks())
            self.assertEqual(blocks_of(Book(TWELVE, words[::-1])), gathering.blocks())
            self.check_full(gathering)

    def check_closed(self, gathering):
        blocks = {frozenset(lot) for lot in gathering.blocks()}
        self.assertEqual(blocks, plain_blocks(TWELVE, [lot for _, lot in gathering.words()]))
        self.assertFalse(has_bar(blocks))
        self.assertTrue(len(blocks) <= 78)

    def check_bar_of_twelve(self, gathering, lot, error):
        self.assertNotIn(lot, gathering)
        bar = [error.one, error.two, error.three]
        self.assertEqual(bar, sorted(bar))
        for one, other in itertools.combinations(bar, 2):
            self.assertFalse(set(one) & set(other))

    def check_full(self, gathering):
        state = state_of(gathering)
        with self.assertRaises(TooMany) as caught:
            gathering.put("z", ("a",))
        self.assertEqual(caught.exception.most, 40)
        self.assertEqual(state_of(gathering), state)

    def test_a_ring_of_pairs_has_a_bar(self):
        for many in range(3, 13):
            finds = TWELVE[:many]
            lots = [tuple(finds[at:at + 2]) for at in range(many - 1)] + [(finds[0], finds[-1])]
            for at in range(many):
                turned = lots[at:] + lots[:at]
                gathering = gathered(finds, zip_words(turned[:-1]))
                blocks = gathering.blocks()
                with self.assertRaises(CannotStand):
                    gathering.put("z", turned[-1])
                self.assertEqual(gathering.blocks(), blocks)
                with self.assertRaises(CannotStand):
                    blocks_of(Book(finds, zip_words(turned)))


class PutTest(unittest.TestCase):
    def setUp(self):
        self.gathering = gathered(["d", "b", "a", "c"], [("m", ("a", "b")), ("n", ("b", "c"))])

    def check(self, error, mark, lot):
        state = state_of(self.gathering)
        with self.assertRaises(type(error)) as caught:
            self.gathering.put(mark, lot)
        self.assertEqual(vars(caught.exception), vars(error), (mark, lot))
        self.assertEqual(state_of(self.gathering), state)

    def test_new_blocks(self):
        self.assertEqual(self.gathering.put(lot=("c", "d"), mark="o"), [("b", "c", "d"), ("c", "d")])
        self.assertEqual(self.gathering.put("p", ("c", "d")), [])
        self.assertEqual(self.gathering.put("q", ("a", "b", "c")), [])
        self.assertEqual(self.gathering.put("r", ("d",)), [])
        marks = [mark for mark, _ in self.gathering.words()]
        self.assertEqual(marks, ["m", "n", "o", "p", "q", "r"])

    def test_errors_in_their_order(self):
        for value in any_values():
            if not (isinstance(value, str) and value in ("a", "abcdef", "before")):
                self.check(InvalidName(value), value, None)
                self.check(InvalidName(value), value, ("b", "d"))
            if value not in [("a",), ("a", "b")]:
                self.check(DuplicateName("m"), "m", value)
                self.check(InvalidLot(0), "o", value)
        self.check(DuplicateName("n"), "n", ("b", "d"))
        for lot in (("e",), ("a", "e"), ("b", "a"), ("a", "a"), ["a", "b"], ("ab",)):
            self.check(InvalidLot(0), "o", lot)

    def test_many(self):
        gathering = Blocks(["a", "b", "c"])
        for mark in MARKS[:40]:
            gathering.put(mark, ("a", "b"))
        self.gathering = gathering
        self.check(InvalidName(""), "", ("a",))
        self.check(DuplicateName("ma"), "ma", ("a",))
        self.check(InvalidLot(0), "z", ("d",))
        self.check(TooMany(40), "z", ("a",))
        gathering = gathered(["a", "b", "c"], zip_words([("a", "b")] * 39 + [("b", "c")]))
        self.gathering = gathering
        self.check(TooMany(40), "z", ("a", "c"))

    def test_refused_words_leave_no_trace(self):
        state = state_of(self.gathering)
        for lot in (("b", "d"), ("a", "c"), ("a", "c", "d")):
            with self.assertRaises(CannotStand):
                self.gathering.put("o", lot)
            self.assertEqual(state_of(self.gathering), state)
        self.assertEqual(self.gathering.put("o", ("c", "d")), [("b", "c", "d"), ("c", "d")])
        fresh = gathered(["a", "b", "c", "d"], [("m", ("a", "b")), ("n", ("b", "c")), ("o", ("c", "d"))])
        self.assertEqual(state_of(self.gathering), state_of(fresh))


class GatheringTest(unittest.TestCase):
    def test_wrong_finds(self):
        for value in any_values():
            if not isinstance(value, (list, tuple)) or len(value) == 0:
                self.check(InvalidFind(-1), value)
            if not (isinstance(value, str) and value in ("a", "abcdef", "before")):
                self.check(InvalidFind(0), [value])
                self.check(InvalidFind(2), ("a", "b", value, None))
        self.check(TooMany(12), TWELVE + ["m"])
        self.check(TooMany(12), [None] * 13)
        self.check(InvalidFind(1), ["a", "a", None])

    def check(self, error, finds):
        with self.assertRaises(type(error)) as caught:
            Blocks(finds)
        self.assertEqual(vars(caught.exception), vars(error), repr(finds))

    def test_values_that_are_no_blocks(self):
        gathering = gathered(["a", "b", "c", "d"], [("m", ("a", "b", "c")), ("n", ("b", "c", "d"))])
        blocks = gathering.blocks()
        others = [lot for lot in all_lots("abcde") if lot not in blocks]
        for value in [*any_values(), *others, ("c", "b"), ["b", "c"], ("b", "c", "c"), "bc", ("lot", ("b", "c"))]:
            if value != ("a",):
                self.assertIs(value in gathering, False, repr(value))
                with self.assertRaises(NotABlock) as caught:
                    gathering.derivation(value)
                self.assertEqual(caught.exception.lot, value)
        self.assertIs(("b", "c") in gathering, True)

    def test_copies(self):
        finds = ["b", "a", "c"]
        gathering = gathered(finds, [("m", ("a", "b"))])
        self.assertEqual(finds, ["b", "a", "c"])
        state = state_of(gathering)
        finds.append("d")
        answers = [gathering.finds(), gathering.blocks(), gathering.words(), gathering.derivation(("a", "b")),
                   gathering.put("n", ("a",))]
        self.assertEqual(answers[-1], [])
        for answer in answers:
            answer.append("x")
        twin = gathered(["a", "b", "c"], [("m", ("a", "b")), ("n", ("a",))])
        self.assertEqual(state_of(gathering), state_of(twin))
        self.assertEqual(gathering.words(), state[1] + [("n", ("a",))])

    def test_twins_are_independent(self):
        gathering = gathered(TWELVE, [("m", ("a", "b", "c")), ("n", ("b", "c", "d"))])
        state = state_of(gathering)
        twin = gathering.twin()
        self.assertEqual(state_of(twin), state)
        twin.put("o", ("c", "d", "e"))
        self.assertEqual(state_of(gathering), state)
        changed = state_of(twin)
        self.assertNotEqual(changed, state)
        with self.assertRaises(CannotStand):
            twin.put("p", ("c", "l"))
        gathering.put("o", ("k", "l"))
        self.assertEqual(state_of(twin), changed)
        self.assertEqual(gathering.words()[2], ("o", ("k", "l")))
        self.assertIs(("k", "l") in twin, False)
        self.assertIs(("c", "d") in gathering, False)

    def test_entries_that_were_asked_for_ahead_of_a_word(self):
        gathering = gathered(["a", "b", "c", "d"], [("m", ("a", "b"))])
        asked = gathering.entries()
        first = next(asked)
        gathering.put("n", ("b", "c"))
        self.assertEqual(first, next(gathering.entries()))
        check_entries(self, gathering)

    def test_equal_gatherings_answer_alike(self):
        words = [("m", ("a", "b", "c")), ("n", ("b", "c", "d")), ("o", ("c", "d", "e"))]
        self.assertEqual(state_of(gathered(TWELVE, words)), state_of(gathered(TWELVE, words)))
