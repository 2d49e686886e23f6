"""What several test files share: values of any kind, draws by a fixed rule, and plain readings of the document."""

import functools
import itertools
import math

from threeorders.blocks import Blocks
from threeorders.books import Book
from threeorders.errors import Clash, InvalidName
from threeorders.rings import Ring
from threeorders.tables import Table
from threeorders.trees import Tree
from threeorders.webs import Web

TWELVE = list("abcdefghijkl")
MARKS = [one + other for one in "mnop" for other in "abcdefghijklpqrst"]


def any_values():
    """Values of all kinds that may stand for "any value"."""
    return [
        None, True, False, 0, 1, -1, 999999999, "", "a", "abcdef", "abcdefg", "A", "a1", "a b", " ", "before", "\n",
        (), ("a",), ("b", "a"), ("a", "a"), ("a", None), ("a", "b"), (("a",),), (((((1,),),),),), (True, False),
        [], ["a"], ["a", "b"], [["a"]], [[[[[None]]]]], ("a", ["b"]), ["a", ("b",)], ("m", ["a"]), ["m", ("a",)],
        ("m", ("a", "b")), ("m", ("b", "a")), ("before", "a", "b"), ["before", "a", "b"], ("m", ("before", "a", "b")),
        ("lot", ("a",)), ("never",), Table([("a", ["k"])]), Book(["a"]), Blocks(["a"]), InvalidName("a"), Clash(["a"]),
        (Book(["a"]), "a"), ("a", Table([("a", [])])), [Blocks(["a"])], ("m", Book(["a"])),
    ]


def more_values():
    """Some more values of all kinds."""
    return any_values() + [
        Tree(["a"]), Tree(["a", "b"]), Web(Tree(["a", "b"])), Ring(["a", "b"]), (Tree(["a"]),), ("m", Web(Tree(["a"]))),
        [Ring(["a", "b"])], ("first", "a"), ("m", ("first", "z")), "(a b)", ("before", "a"), ("lot", ["a"]), ((), ()),
        ([], []), [("a", "b"), ("b", "a")], ("b", "a", "c"), (0, 1), 12, 479001599,
    ]


def check_raises(test, error, function, *values, **named):
    """Sees to it that a call raises an error of just this class with just these attributes."""
    with test.assertRaises(type(error)) as caught:
        function(*values, **named)
    test.assertIs(type(caught.exception), type(error), (values, named))
    test.assertEqual(vars(caught.exception), vars(error), (values, named))


def bar_in(error):
    """The bar that an error CannotStand tells."""
    return error.one, error.two, error.three


class Draws:
    """Numbers that look as if drawn, by a rule that gives the same ones each time."""

    def __init__(self, seed):
        self.state = seed

    def below(self, most):
        """A number from 0 to most - 1."""
        self.state = (self.state * 1103515245 + 12345) & 0x7FFFFFFF
        return (self.state >> 12) % most

    def lot(self, finds):
        """A lot of some finds."""
        chosen = [name for name in finds if self.below(2)]
        return tuple(sorted(chosen)) if chosen else (finds[self.below(len(finds))],)

    def book(self, most_finds, most_words):
        """The finds and words of a book; its words are often stretches of one order, so that many books stand."""
        finds = TWELVE[:1 + max(self.below(most_finds), self.below(most_finds))]
        order = list(finds)
        for at in range(len(order)):
            other = self.below(len(order))
            order[at], order[other] = order[other], order[at]
        words = []
        for at in range(max(self.below(most_words + 1), self.below(most_words + 1))):
            low = self.below(len(order))
            stretch = tuple(sorted(order[low:low + 2 + self.below(len(order) - low)]))
            words.append(("m" + TWELVE[at], stretch if self.below(4) else self.lot(finds)))
        return finds, words

    def facts(self, finds, many):
        """Marked facts about some finds, most of them befores."""
        facts = []
        for at in range(many):
            x, y = finds[self.below(len(finds))], finds[self.below(len(finds))]
            kind = self.below(8)
            if kind < 6 and (x != y or not self.below(4)):
                facts.append((MARKS[at], ("before", x, y)))
            else:
                facts.append((MARKS[at], (("first", "last")[kind & 1], x)))
        return facts

    def order(self, finds):
        """An order of some finds."""
        left = list(finds)
        return tuple([left.pop(self.below(len(left))) for _ in finds])

    def growth(self, finds, depth=0):
        """A tree that was grown by hand: a find, or a pair of a shape and of grown children in a row."""
        if len(finds) == 1:
            return finds[0]
        left = list(self.order(finds))
        most = len(left) if depth else min(len(left), 5)
        cuts = sorted({1 + self.below(len(left) - 1) for _ in range(1 + self.below(most))})
        parts = [left[low:high] for low, high in zip([0] + cuts, cuts + [len(left)])]
        shape = "row" if len(parts) > 2 and self.below(2) else "loose"
        return shape, [self.growth(part, depth + 1) for part in parts]


def finds_in(growth):
    """The ascending list of the finds of a grown tree."""
    return [growth] if isinstance(growth, str) else sorted(name for child in growth[1] for name in finds_in(child))


def numbered(growth):
    """The grown tree with all children by number."""
    if isinstance(growth, str):
        return growth
    shape, children = growth
    if shape == "loose":
        children = sorted(children, key=finds_in)
    elif finds_in(children[0])[0] > finds_in(children[-1])[0]:
        children = children[::-1]
    return shape, [numbered(child) for child in children]


def grown_text(growth):
    """The text of a grown tree whose children stand by number."""
    if isinstance(growth, str):
        return growth
    told = " ".join(grown_text(child) for child in growth[1])
    return f"[{told}]" if growth[0] == "row" else f"({told})"


def grown_lots(growth):
    """The lots of a grown tree that make it: its nodes, and the neighbours in its rows."""
    if isinstance(growth, str):
        return []
    lots = [tuple(finds_in(growth))]
    if growth[0] == "row":
        pairs = zip(growth[1], growth[1][1:])
        lots += [tuple(sorted(finds_in(one) + finds_in(other))) for one, other in pairs]
    return lots + [lot for child in growth[1] for lot in grown_lots(child)]


def grown_nodes(growth, depth=0):
    """The depth, the shape, the lot and the lots of the children of each node of a grown tree, in a walk."""
    if isinstance(growth, str):
        return []
    children = [tuple(finds_in(child)) for child in growth[1]]
    rows = [(depth, growth[0], tuple(finds_in(growth)), children)]
    return rows + [row for child in growth[1] for row in grown_nodes(child, depth + 1)]


def grown_order(growth, draws):
    """Some order that fits a grown tree."""
    if isinstance(growth, str):
        return (growth,)
    children = growth[1][::1 - 2 * draws.below(2)] if growth[0] == "row" else draws.order(growth[1])
    return tuple(name for child in children for name in grown_order(child, draws))


def grown_many(growth):
    """The number of the orders that fit a grown tree."""
    if isinstance(growth, str):
        return 1
    many = 2 if growth[0] == "row" else math.factorial(len(growth[1]))
    for child in growth[1]:
        many *= grown_many(child)
    return many


def as_lots(blocks):
    """Frozen sets as an ascending list of lots."""
    return sorted(tuple(sorted(block)) for block in blocks)


def all_lots(finds):
    """All lots of some finds."""
    return [lot for many in range(1, len(finds) + 1) for lot in itertools.combinations(sorted(finds), many)]


class PlainTree:
    """The nodes by [15] to [17], by going through all blocks and all orders of children."""

    def __init__(self, finds, lots):
        self.finds = sorted(finds)
        self.blocks = plain_blocks(finds, lots)
        self.strong = [one for one in self.blocks if not any(overlapping(one, other) for other in self.blocks)]
        self.nodes = [one for one in self.strong if len(one) > 1]
        self.known = {}

    def children(self, node):
        """The children of a node by number, as lots."""
        if node not in self.known:
            self.known[node] = self.find_children(node)
        return self.known[node]

    def find_children(self, node):
        """The same, by trying all rows."""
        within = [one for one in self.strong if one < node]
        children = [one for one in within if not any(one < other for other in within)]
        unions = self.unions(node, children)
        if not unions:
            return sorted(as_lots(children))
        rows = [row for row in itertools.permutations(as_lots(children)) if self.neighbours(row) == unions]
        assert len(rows) == 2 and rows[0] == rows[1][::-1]
        return list([row for row in rows if row[0][0] < row[-1][0]][0])

    def unions(self, node, children):
        """The blocks that are unions of two or more, not all, of the children of a node."""
        return {
            one for one in self.blocks
            if one < node and not any(one <= child for child in children)
        }

    def neighbours(self, row):
        """The unions of two or more, not all, neighbours in a row."""
        stretches = [row[low:high] for low in range(len(row)) for high in range(low + 2, len(row) + 1)]
        return {frozenset(name for lot in part for name in lot) for part in stretches if len(part) < len(row)}

    def shape(self, node):
        """The shape of a node."""
        children = [frozenset(child) for child in self.children(node)]
        return "row" if len(children) > 2 and self.unions(node, children) else "loose"

    def depth(self, lot):
        """The number of the nodes that contain a lot, other than itself."""
        return len([node for node in self.nodes if node > frozenset(lot)])


def plain_fits(order, fact):
    """Whether an order fits a fact by [5]."""
    if fact[0] == "before":
        return order.index(fact[1]) < order.index(fact[2])
    return order[0 if fact[0] == "first" else -1] == fact[1]


def drawn_case(draws, most_finds=6, most_facts=5):
    """The finds, words and facts of a case whose book stands, and the orders that fit its book and the case."""
    while True:
        finds, words = draws.book(most_finds, 4)
        orders = plain_orders(finds, [lot for _, lot in words])
        if orders:
            facts = draws.facts(finds, draws.below(most_facts + 1))
            return finds, words, facts, orders, plain_case(orders, facts)


def plain_case(orders, facts):
    """Those of some orders that fit all of some marked facts."""
    return [order for order in orders if all(plain_fits(order, fact) for _, fact in facts)]


def overlapping(one, other):
    """Whether two frozen sets overlap by [3]."""
    return bool(one & other) and bool(one - other) and bool(other - one)


def plain_blocks(finds, lots):
    """The blocks by [9]: everything that follows is put in until nothing new comes."""
    blocks = {frozenset([name]) for name in finds} | {frozenset(finds)} | {frozenset(lot) for lot in lots}
    while True:
        new = set()
        for one in blocks:
            for other in blocks:
                if overlapping(one, other):
                    new |= {one | other, one & other, one - other, other - one}
        if new <= blocks:
            return blocks
        blocks |= new


@functools.lru_cache(maxsize=None)
def orders_of(finds):
    """All orders of a tuple of finds."""
    return tuple(itertools.permutations(finds))


@functools.lru_cache(maxsize=None)
def orders_keeping(finds, lot):
    """A number with a bit for each order of a tuple of finds that keeps a lot."""
    return sum(1 << at for at, order in enumerate(orders_of(finds)) if plain_keeps(order, lot))


def plain_orders(finds, lots):
    """The orders that keep some lots, out of all orders, ascending if the finds are."""
    orders = orders_of(tuple(finds))
    kept = (1 << len(orders)) - 1
    for lot in lots:
        kept &= orders_keeping(tuple(finds), lot)
    return [order for order, sign in zip(orders, reversed(bin(kept)[2:])) if sign == "1"]


def plain_keeps(order, lot):
    """Whether the places of a lot are consecutive."""
    places = sorted(order.index(name) for name in lot)
    return places == list(range(places[0], places[0] + len(places)))


def has_bar(blocks):
    """Whether some blocks have a bar by [10]."""
    pairs = [(one, other) for one in blocks for other in blocks if overlapping(one, other)]
    return any((one - other) | (other - one) in blocks for one, other in pairs)


def is_bar(blocks, lots):
    """Whether lots are a bar of a book with these blocks."""
    one, two, three = [frozenset(lot) for lot in lots]
    apart = not (one & two or one & three or two & three)
    return apart and one | two in blocks and one | three in blocks and two | three in blocks


def plain_right(finds, words, facts, entries, at):
    """Whether the entry with an index is right by [11]; its statement and its elders have the right form."""
    statement, rule, elders = entries[at]
    if rule in ("word", "fact"):
        pairs = [told for mark, told in (words if rule == "word" else facts) if mark == elders[0]]
        if not pairs:
            return False
        if rule == "word":
            return statement == ("lot", pairs[0])
        if pairs[0][0] == "before":
            return statement == pairs[0]
        others = [name for name in finds if name != pairs[0][1]]
        return statement in [
            ("before", pairs[0][1], other) if pairs[0][0] == "first" else ("before", other, pairs[0][1])
            for other in others
        ]
    told = [entries[elder][0] for elder in elders]
    kinds = [item[0] for item in told]
    sets = [frozenset(item[1]) if item[0] == "lot" else None for item in told]
    lot = frozenset(statement[1]) if statement[0] == "lot" else None
    if rule == "single":
        return lot is not None and len(lot) == 1 and lot <= set(finds)
    if rule == "all":
        return lot == frozenset(finds)
    if rule == "chain":
        return kinds == ["before", "before"] and told[0][2] == told[1][1] \
            and statement == ("before", told[0][1], told[1][2])
    if rule == "self":
        return kinds == ["before"] and told[0][1] == told[0][2] and statement == ("never",)
    if kinds[:2] != ["lot", "lot"]:
        return False
    one, other = sets[:2]
    if rule == "apart":
        return not one & other and kinds[2] == "before" == statement[0] \
            and told[2][1] in one and told[2][2] in other and statement[1] in one and statement[2] in other
    if not overlapping(one, other):
        return False
    if rule == "bar":
        return sets[2] == one ^ other and statement == ("never",)
    if rule == "across":
        if kinds[2] != "before" or statement[0] != "before":
            return False
        parts = {name: 0 for name in one - other}
        parts.update({name: 1 for name in one & other})
        parts.update({name: 2 for name in other - one})
        u, v, x, y = [parts.get(name) for name in told[2][1:] + statement[1:]]
        if None in (u, v, x, y) or u == v or x == y:
            return False
        return (u < v) == (x < y)
    return lot == {"union": one | other, "common": one & other, "rest": one - other}[rule]
