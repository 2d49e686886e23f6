"""Given orders: the lots that all of them keep, and the fewest of them that share just these."""

from threeorders.checks import MOST_FINDS, check_lot, is_listed
from threeorders.errors import InvalidOrder, TooMany
from threeorders.orders import is_order, keeps
from threeorders.trees import Tree

_MOST_ORDERS = 8


def shares(orders, lot):
    """Whether all given orders keep a lot."""
    _check_orders(orders)
    check_lot(orders[0], lot)
    return all([keeps(order, lot) for order in orders])


def shared_tree(orders):
    """The tree whose blocks are the lots that all given orders keep."""
    _check_orders(orders)
    return Tree(list(orders[0]), [lot for lot in _kept_by(orders[0]) if shares(orders, lot)])


def fewest_orders(orders):
    """The indexes of the fewest given orders that share the same lots as all of them."""
    _check_orders(orders)
    kept = [{lot: True for lot in _kept_by(order)} for order in orders]
    most = _many_shared(kept)
    for _, indexes in _choices(len(orders)):
        # Fewer orders share all that more of them share, so the same number of lots are the same lots.
        if _many_shared([kept[index] for index in indexes]) == most:
            return indexes
    return []


def _check_orders(orders):
    """Raises an error unless orders are 1 to 8 orders of the same 1 to 12 finds."""
    if not is_listed(orders) or len(orders) == 0:
        raise InvalidOrder(-1)
    if len(orders) > _MOST_ORDERS:
        raise TooMany(_MOST_ORDERS)
    first = orders[0]
    if not isinstance(first, tuple) or not 1 <= len(first) <= MOST_FINDS or not is_order(first, first):
        raise InvalidOrder(0)
    for at, order in enumerate(orders):
        if not is_order(first, order):
            raise InvalidOrder(at)


def _kept_by(order):
    """The lots that an order keeps."""
    lows = range(len(order))
    return [tuple(sorted(order[low:high + 1])) for low in lows for high in lows if low <= high]


def _many_shared(kept):
    """The number of the lots that stand in each one of some dicts."""
    return len([lot for lot in kept[0] if all([lot in each for each in kept])])


def _choices(many):
    """The ascending lists of one or more indexes, each behind its length, the shorter ones first."""
    lists = [[at for at in range(many) if chosen >> at & 1] for chosen in range(1, 1 << many)]
    return sorted([(len(indexes), indexes) for indexes in lists])
