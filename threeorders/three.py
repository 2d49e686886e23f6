"""The three orders of a tree, which keep together just its blocks."""

from threeorders.checks import check_lot
from threeorders.orders import gaps_of, keeps

_WORDS = ("alpha", "beta", "gamma")


def three_orders(tree):
    """The tuple of alpha, beta and gamma."""
    return tuple([_made(tree, word, tuple(tree.finds())) for word in _WORDS])


def follows(tree, lot):
    """Whether all three orders keep a lot."""
    return refuted(tree, lot) is None


def refuted(tree, lot):
    """The word of the first order that does not keep a lot, the order, and its first gap; None for a block."""
    check_lot(tree.finds(), lot)
    for word, order in zip(_WORDS, three_orders(tree)):
        if not keeps(order, lot):
            return word, order, gaps_of(order, lot)[0]
    return None


def _made(tree, word, lot):
    """The order of a node, or of a lot of one find, that is part of one of the three orders."""
    if len(lot) == 1:
        return lot
    children = _put(word, tree.depth(lot), tree.shape(lot), tree.children(lot))
    return tuple([name for child in children for name in _made(tree, word, child)])


def _put(word, depth, shape, children):
    """The children of a node as they stand one behind another in one of the three orders."""
    if word == "alpha":
        return children[::-1] if depth & 1 else children
    if shape == "row" or len(children) == 2:
        return children
    odd, even = children[0::2], children[1::2]
    return even + odd if word == "beta" else odd + even
