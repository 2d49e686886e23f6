"""Checks of arguments that several classes and functions share."""

from threeorders.errors import DuplicateName, InvalidFind, InvalidLot, TooMany
from threeorders.lots import is_lot_of
from threeorders.names import is_name

MOST_FINDS = 12


def is_listed(value):
    """Whether any value is a list, or a tuple, which may stand where a list is asked for."""
    return isinstance(value, (list, tuple))


def check_finds(finds):
    """Raises an error unless finds are 1 to 12 different names."""
    if not is_listed(finds) or len(finds) == 0:
        raise InvalidFind(-1)
    if len(finds) > MOST_FINDS:
        raise TooMany(MOST_FINDS)
    for at, name in enumerate(finds):
        if not is_name(name) or name in finds[:at]:
            raise InvalidFind(at)


def check_lot(finds, lot):
    """Raises InvalidLot unless any value is a lot of some finds."""
    if not is_lot_of(finds, lot):
        raise InvalidLot(0)


def check_lots(finds, lots):
    """Raises InvalidLot unless any value is a list of lots of some finds."""
    if not is_listed(lots):
        raise InvalidLot(-1)
    for at, lot in enumerate(lots):
        if not is_lot_of(finds, lot):
            raise InvalidLot(at)


def check_different(names):
    """Raises DuplicateName with the first name that stands ahead of itself."""
    for at, name in enumerate(names):
        if name in names[:at]:
            raise DuplicateName(name)
