"""Trees of the same finds that have the same blocks, and what parts those that have not."""

from threeorders.errors import OtherFinds
from threeorders.three import three_orders


def alike(one, other):
    """Whether two trees have the same blocks."""
    _check_finds(one, other)
    return one == other


def differing(one, other):
    """The blocks that each of two trees has and the other one lacks."""
    _check_finds(one, other)
    return [lot for lot in one.blocks() if lot not in other], [lot for lot in other.blocks() if lot not in one]


def parted_by(one, other):
    """An order that fits exactly one of two trees, or None if they are alike."""
    _check_finds(one, other)
    # Each block that one tree lacks has a gap in one of the three orders of this tree.
    for order in [*three_orders(one), *three_orders(other)]:
        if one.fits(order) != other.fits(order):
            return order
    return None


def _check_finds(one, other):
    """Raises OtherFinds unless two trees have the same finds."""
    if one.finds() != other.finds():
        raise OtherFinds()
