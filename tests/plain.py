"""What several test files share: values of any kind, draws by a fixed rule, and plain readings of the document."""

import itertools

from threeorders.blocks import Blocks
from threeorders.books import Book
from threeorders.errors import Clash, InvalidName
from threeorders.tables import Table

TWELVE = list("abcdefghijkl")


def any_values():
    """Values of all kinds that may stand for "any value"."""
    return [
        None, True, False, 0, 1, -1, 999999999, "", "a", "abcdef", "abcdefg", "A", "a1", "a b", " ", "before", "\n",
        (), ("a",), ("b", "a"), ("a", "a"), ("a", None), ("a", "b"), (("a",),), (((((1,),),),),), (True, False),
        [], ["a"], ["a", "b"], [["a"]], [[[[[None]]]]], ("a", ["b"]), ["a", ("b",)], ("m", ["a"]), ["m", ("a",)],
        ("m", ("a", "b")), ("m", ("b", "a")), ("before", "a", "b"), ["before", "a", "b"], ("m", ("before", "a", "b")),
        ("lot", ("a",)), ("never",), Table([("a", ["k"])]), Book(["a"]), Blocks(["a"]), InvalidName("a"), Clash(["a"]),
        (Book(["a"]), "a"), ("a", Table([("a", [])])), [Blocks(["a"])], ("m", Book(["a"])),
    ]


class Draws:
    """Numbers that look as if drawn, by a rule that gives the same ones each time."""

    def __init__(self, seed):
        self.state = seed

    def below(self, most):
        """A number from 0 to most - 1."""
        self.state = (self.state * 1103515245 + 12345) & 0x7FFFFFFF
        return (self.state >> 12) % most

    def lot(self, finds):
        """A lot of some finds."""
        chosen = [name for name in finds if self.below(2)]
        return tuple(sorted(chosen)) if chosen else (finds[self.below(len(finds))],)

    def book(self, most_finds, most_words):
        """The finds and words of a book; its words are often stretches of one order, so that many books stand."""
        finds = TWELVE[:1 + max(self.below(most_finds), self.below(most_finds))]
        order = list(finds)
        for at in range(len(order)):
            other = self.below(len(order))
            order[at], order[other] = order[other], order[at]
        words = []
        for at in range(max(self.below(most_words + 1), self.below(most_words + 1))):
            low = self.below(len(order))
            stretch = tuple(sorted(order[low:low + 2 + self.below(len(order) - low)]))
            words.append(("m" + TWELVE[at], stretch if self.below(4) else self.lot(finds)))
        return finds, words


def overlapping(one, other):
    """Whether two frozen sets overlap by [3]."""
    return bool(one & other) and bool(one - other) and bool(other - one)


def plain_blocks(finds, lots):
    """The blocks by [9]: everything that follows is put in until nothing new comes."""
    blocks = {frozenset([name]) for name in finds} | {frozenset(finds)} | {frozenset(lot) for lot in lots}
    while True:
        new = set()
        for one in blocks:
            for other in blocks:
                if overlapping(one, other):
                    new |= {one | other, one & other, one - other, other - one}
        if new <= blocks:
            return blocks
        blocks |= new


def plain_orders(finds, lots):
    """The orders that keep some lots, out of all orders."""
    return [order for order in itertools.permutations(finds) if all(plain_keeps(order, lot) for lot in lots)]


def plain_keeps(order, lot):
    """Whether the places of a lot are consecutive."""
    places = sorted(order.index(name) for name in lot)
    return places == list(range(places[0], places[0] + len(places)))


def has_bar(blocks):
    """Whether some blocks have a bar by [10]."""
    pairs = [(one, other) for one in blocks for other in blocks if overlapping(one, other)]
    return any((one - other) | (other - one) in blocks for one, other in pairs)


def is_bar(blocks, lots):
    """Whether lots are a bar of a book with these blocks."""
    one, two, three = [frozenset(lot) for lot in lots]
    apart = not (one & two or one & three or two & three)
    return apart and one | two in blocks and one | three in blocks and two | three in blocks


def plain_right(finds, words, facts, entries, at):
    """Whether the entry with an index is right by [11]; its statement and its elders have the right form."""
    statement, rule, elders = entries[at]
    if rule in ("word", "fact"):
        pairs = [told for mark, told in (words if rule == "word" else facts) if mark == elders[0]]
        if not pairs:
            return False
        if rule == "word":
            return statement == ("lot", pairs[0])
        if pairs[0][0] == "before":
            return statement == pairs[0]
        others = [name for name in finds if name != pairs[0][1]]
        return statement in [
            ("before", pairs[0][1], other) if pairs[0][0] == "first" else ("before", other, pairs[0][1])
            for other in others
        ]
    told = [entries[elder][0] for elder in elders]
    kinds = [item[0] for item in told]
    sets = [frozenset(item[1]) if item[0] == "lot" else None for item in told]
    lot = frozenset(statement[1]) if statement[0] == "lot" else None
    if rule == "single":
        return lot is not None and len(lot) == 1 and lot <= set(finds)
    if rule == "all":
        return lot == frozenset(finds)
    if rule == "chain":
        return kinds == ["before", "before"] and told[0][2] == told[1][1] \
            and statement == ("before", told[0][1], told[1][2])
    if rule == "self":
        return kinds == ["before"] and told[0][1] == told[0][2] and statement == ("never",)
    if kinds[:2] != ["lot", "lot"]:
        return False
    one, other = sets[:2]
    if rule == "apart":
        return not one & other and kinds[2] == "before" == statement[0] \
            and told[2][1] in one and told[2][2] in other and statement[1] in one and statement[2] in other
    if not overlapping(one, other):
        return False
    if rule == "bar":
        return sets[2] == one ^ other and statement == ("never",)
    if rule == "across":
        if kinds[2] != "before" or statement[0] != "before":
            return False
        parts = {name: 0 for name in one - other}
        parts.update({name: 1 for name in one & other})
        parts.update({name: 2 for name in other - one})
        u, v, x, y = [parts.get(name) for name in told[2][1:] + statement[1:]]
        if None in (u, v, x, y) or u == v or x == y:
            return False
        return (u < v) == (x < y)
    return lot == {"union": one | other, "common": one & other, "rest": one - other}[rule]
