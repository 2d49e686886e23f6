"""What surely holds in the orders that fit a web, and what may hold in some of them."""

from threeorders.checks import check_lot
from threeorders.errors import CannotStand, Same, UnknownFind
from threeorders.links import can_hold


def surely_before(web, x, y):
    """Whether a find stands before another one in all orders that fit."""
    _check_finds(web, (x, y))
    return not web.can_take(("before", y, x))


def may_before(web, x, y):
    """Whether a find stands before another one in some order that fits."""
    _check_finds(web, (x, y))
    return web.can_take(("before", x, y))


def surely_between(web, x, z, y):
    """Whether a find stands between two others in all orders that fit."""
    _check_finds(web, (x, z, y))
    ahead = web.can_take(("before", z, x), ("before", z, y))
    behind = web.can_take(("before", x, z), ("before", y, z))
    return not ahead and not behind


def may_between(web, x, z, y):
    """Whether a find stands between two others in some order that fits."""
    _check_finds(web, (x, z, y))
    there = web.can_take(("before", x, z), ("before", z, y))
    return there or web.can_take(("before", y, z), ("before", z, x))


def surely_together(web, lot):
    """Whether all orders that fit keep a lot."""
    return reasons(web, lot) is not None


def may_together(web, lot):
    """Whether some order that fits keeps a lot."""
    check_lot(web.tree.finds(), lot)
    try:
        tree = web.tree.with_lot(lot)
    except CannotStand:
        return False
    return can_hold(tree, [fact for _, fact in web.facts()], {})


def reasons(web, lot):
    """A dict from the finds outside of a lot to why they never stand within it, or None if one of them may."""
    check_lot(web.tree.finds(), lot)
    block = web.tree.least_block(lot)
    found = {}
    for name in web.tree.finds():
        if name in lot:
            continue
        if name not in block:
            found[name] = ("block", block)
        elif all([surely_before(web, name, other) for other in lot]):
            found[name] = ("ahead",)
        elif all([surely_before(web, other, name) for other in lot]):
            found[name] = ("behind",)
        else:
            return None
    return found


def _check_finds(web, names):
    """Raises an error unless any values are different finds of a web."""
    for name in names:
        if name not in web.tree.finds():
            raise UnknownFind(name)
    for at, name in enumerate(names):
        if name in names[:at]:
            raise Same(name)
