"""Rings: finds that lay on a ring, and the lots that were stretches of it."""

from threeorders.checks import check_finds, check_lots, is_listed
from threeorders.errors import InvalidNumber, TooFew, TooMany, UnknownFind
from threeorders.lots import is_lot_of, rest
from threeorders.names import is_number
from threeorders.orders import is_order, keeps, place_in
from threeorders.ranking import Ranking
from threeorders.three import three_orders
from threeorders.trees import Tree

_FEWEST_FINDS = 2
_MOST_LOTS = 40


def is_ring_order(finds, value):
    """Whether any value is a ring order of a list of two finds or more."""
    return is_order(finds, value) and value[0] == min(finds)


def is_arc(order, lot):
    """Whether a lot is an arc of a ring order."""
    others = rest(order, lot)
    return len(others) == 0 or keeps(order, lot) or keeps(order, others)


def opened(order, name):
    """The other finds of a ring order, from the one behind a find on, round."""
    place = place_in(order, name)
    return order[place + 1:] + order[:place]


class Ring:
    """Some finds on a ring and a list of lots of them."""

    def __init__(self, finds, lots=()):
        check_finds(finds)
        if len(finds) < _FEWEST_FINDS:
            raise TooFew(_FEWEST_FINDS)
        if is_listed(lots) and len(lots) > _MOST_LOTS:
            raise TooMany(_MOST_LOTS)
        check_lots(finds, lots)
        self._finds = sorted(finds)
        self._lots = list(lots)
        self._tree = self._past(self._finds[0])
        self._arcs = {lot: True for lot in _arcs_of(self._finds, self._tree)}

    def finds(self):
        """The ascending list of the finds."""
        return list(self._finds)

    def lots(self):
        """The list of the lots, in order."""
        return list(self._lots)

    def tree_past(self, name):
        """The tree past a find."""
        if name not in self._finds:
            raise UnknownFind(name)
        return self._past(name)

    def arcs(self):
        """The ascending list of the lots that are arcs of all ring orders that fit."""
        return list(self._arcs)

    def many(self):
        """The number of the ring orders that fit."""
        return Ranking(self._tree, {}).many()

    def order_at(self, rank):
        """The ring order with an index in the ascending list of those that fit."""
        ranking = Ranking(self._tree, {})
        if not is_number(rank, 0, ranking.many() - 1):
            raise InvalidNumber(rank)
        return (self._finds[0], *ranking.order_at(rank))

    def three_rings(self):
        """The tuple of the three ring orders."""
        return tuple([(self._finds[0], *order) for order in three_orders(self._tree)])

    def fits(self, value):
        """Whether any value is a ring order that fits."""
        return is_ring_order(self._finds, value) and all([is_arc(value, lot) for lot in self._lots])

    def _past(self, seam):
        """The tree past a seam; whether it exists does not depend on the seam."""
        others = [name for name in self._finds if name != seam]
        words = [rest(others, lot) if seam in lot else lot for lot in self._lots]
        return Tree(others, [word for word in words if len(word) > 0])

    def __contains__(self, lot):
        return is_lot_of(self._finds, lot) and lot in self._arcs

    def __eq__(self, other):
        return isinstance(other, Ring) and self._finds == other._finds and self._arcs == other._arcs

    def __len__(self):
        return len(self._arcs)

    def __repr__(self):
        return f"Ring({len(self._finds)} finds)"


def _arcs_of(finds, tree):
    """The ascending list of the lots that are arcs wherever an order fits the tree past the least find."""
    blocks = tree.blocks()
    return sorted([tuple(finds), *blocks, *[rest(tuple(finds), block) for block in blocks]])
