"""Ranking: the orders of a tree with links, counted node by node and numbered in their ascending order."""

from threeorders.lots import is_within
from threeorders.ways import ways_of


class Ranking:
    """The orders that a tree and the links of its nodes allow.

    An order is begun by a list of finds. What is begun with it is a list with the begun way of each node.
    """

    def __init__(self, tree, links):
        nodes = tree.nodes()
        self._finds = tree.finds()
        self._children = [tree.children(node) for node in nodes]
        self._ways = [ways_of(tree.shape(node), len(tree.children(node)), links.get(node, [])) for node in nodes]
        self._seats = {name: _seats_of(self._children, name) for name in self._finds}

    def many(self):
        """The number of the orders."""
        return self._left(self.nothing())

    def nothing(self):
        """What is begun with no find."""
        return [() for _ in self._ways]

    def nexts(self, order, begun):
        """The finds, ascending, that may stand behind a begun order, each with what is begun with it then."""
        found = []
        for name in self._finds:
            longer = None if name in order else self._behind(order, begun, name)
            if longer is not None:
                found.append((name, longer))
        return found

    def order_at(self, rank):
        """The order with a rank."""
        order = []
        begun = self.nothing()
        for _ in self._finds:
            for name, longer in self.nexts(order, begun):
                many = self._left(longer)
                if rank < many:
                    break
                rank = rank - many
            order.append(name)
            begun = longer
        return tuple(order)

    def rank_of(self, order):
        """The rank of an order that is allowed."""
        rank = 0
        begun = self.nothing()
        for at, found in enumerate(order):
            for name, longer in self.nexts(order[:at], begun):
                if name == found:
                    break
                rank = rank + self._left(longer)
            begun = longer
        return rank

    def _left(self, begun):
        """The number of the orders that begin so."""
        many = 1
        for ways, numbers in zip(self._ways, begun):
            many = many * ways.left(numbers)
        return many

    def _behind(self, order, begun, name):
        """What is begun with a find behind a begun order, or None if it may not stand there."""
        longer = list(begun)
        for at, number in self._seats[name]:
            numbers = begun[at]
            if len(numbers) > 0 and numbers[-1] == number:
                continue
            if len(numbers) > 0 and not is_within(self._children[at][numbers[-1] - 1], order):
                return None
            longer[at] = (*numbers, number)
            if self._ways[at].left(longer[at]) == 0:
                return None
        return longer


def _seats_of(children, name):
    """For each node that contains a find: its index, and the number of its child that contains the find."""
    return [
        (at, number + 1)
        for at, lots in enumerate(children) for number, lot in enumerate(lots) if name in lot
    ]
