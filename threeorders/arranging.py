"""Arranging: orders that fit a web, made of a row of children at each node."""

from threeorders.lanes import lanes_of
from threeorders.links import links_of, number_in


class Arranging:
    """The lanes of the nodes of a tree with links, and the orders that are made of their ways."""

    def __init__(self, tree, links):
        self._tree = tree
        self._lanes = {
            node: lanes_of(tree.shape(node), len(tree.children(node)), links[node]) for node in tree.nodes()
        }

    def nodes(self):
        """The ascending list of the nodes."""
        return list(self._lanes)

    def lanes(self, node):
        """The list of the lanes of a node."""
        return list(self._lanes[node])

    def children(self, node):
        """The list of the children of a node, by number."""
        return self._tree.children(node)

    def child_with(self, node, name):
        """The number of the child of a node that contains a find."""
        return number_in(self._tree.children(node), name)

    def many_in(self, node, mask):
        """The number of the finds in a set of children of a node."""
        return sum([len(child) for at, child in enumerate(self._tree.children(node)) if mask >> at & 1])

    def order(self, rows):
        """An order in which the children of some nodes stand in given rows, which are ways of these nodes."""
        return self._made(rows, tuple(self._tree.finds()))

    def _made(self, rows, lot):
        """The part of an order that a node, or a lot of one find, is."""
        if len(lot) == 1:
            return lot
        row = rows[lot] if lot in rows else self._lanes[lot][0].row([])
        children = self._tree.children(lot)
        return tuple([name for number in row for name in self._made(rows, children[number - 1])])


def arranging_of(web):
    """The arranging of the orders that fit a web."""
    return Arranging(web.tree, {node: web.links(node) for node in web.tree.nodes()})


def order_where(web, facts):
    """An order that fits a web and some facts, which have no marks; None if there is none."""
    if not web.can_take(*facts):
        return None
    told = links_of(web.tree, facts)
    return Arranging(web.tree, {node: web.links(node) + told[node] for node in web.tree.nodes()}).order({})


def order_fitting(tree, facts):
    """An order that fits a tree and some facts, which some order does."""
    return Arranging(tree, links_of(tree, facts)).order({})
