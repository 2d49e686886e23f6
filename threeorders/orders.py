"""Orders: tuples in which each of some finds stands once."""

from threeorders.errors import UnknownFind
from threeorders.names import are_names


def is_order(finds, value):
    """Whether any value is an order of a list of finds."""
    return isinstance(value, tuple) and are_names(value) and sorted(value) == sorted(set(finds))


def place_in(order, name):
    """The place of a find in an order."""
    if name not in order:
        raise UnknownFind(name)
    return order.index(name)


def keeps(order, lot):
    """Whether an order keeps a lot of its finds."""
    return len(gaps_of(order, lot)) == 0


def gaps_of(order, lot):
    """The gaps of a lot in an order, by places."""
    places = [order.index(name) for name in lot]
    return [name for name in order[min(places):max(places)] if name not in lot]


def turned(order):
    """The order from the last find to the first one."""
    return order[::-1]


def cut_order(order, lot):
    """The finds of a lot, one behind another as they stand in an order."""
    return tuple([name for name in order if name in lot])
