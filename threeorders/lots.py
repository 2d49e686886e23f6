"""Lots: ascending tuples of one or more different names."""

from threeorders.errors import InvalidLot
from threeorders.names import are_names, is_name


def is_lot(value):
    """Whether any value is a lot."""
    if not isinstance(value, tuple) or len(value) == 0 or not are_names(value):
        return False
    return list(value) == sorted(set(value))


def is_lot_of(finds, value):
    """Whether any value is a lot of names from a list."""
    return is_lot(value) and is_within(value, finds)


def lot_of(names):
    """The lot of names that may stand in any order and several times."""
    if not isinstance(names, (list, tuple)) or len(names) == 0:
        raise InvalidLot(-1)
    for at, name in enumerate(names):
        if not is_name(name):
            raise InvalidLot(at)
    return tuple(sorted(set(names)))


def are_apart(one, other):
    """Whether two lots have no name in common."""
    return not any([name in other for name in one])


def overlap(one, other):
    """Whether two lots have a name in common and each of them has one that the other one lacks."""
    return not are_apart(one, other) and not is_within(one, other) and not is_within(other, one)


def is_within(one, other):
    """Whether each name of one lot is in the other one."""
    return all([name in other for name in one])


def joined(one, other):
    """The names that are in one lot or in both."""
    return tuple(sorted(set([*one, *other])))


def common(one, other):
    """The names that are in both lots."""
    return tuple([name for name in one if name in other])


def rest(one, other):
    """The names of the first lot that are not in the other one."""
    return tuple([name for name in one if name not in other])
