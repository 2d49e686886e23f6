"""Trees: what all orders that fit a book have in common, node by node."""

from threeorders.checks import MOST_FINDS, check_finds, check_lot, check_lots
from threeorders.closing import Closing
from threeorders.errors import InvalidText, OtherFinds, Same, UnknownFind, UnknownNode
from threeorders.lots import common, is_lot_of, is_within, joined, lot_of
from threeorders.names import are_names
from threeorders.nodes import nodes_of
from threeorders.orders import is_order, keeps

_SIGNS = ("(", ")", "[", "]")


class Tree:
    """The blocks of a book that stands, and the nodes among them."""

    def __init__(self, finds, lots=()):
        check_finds(finds)
        check_lots(finds, lots)
        closing = Closing(finds, [("lot", lot) for lot in lots])
        closing.check_bar()
        self._finds = sorted(finds)
        self._blocks = {lot: True for lot in closing.lots_from(0)}
        self._nodes = nodes_of(self._finds, closing.masks())

    def finds(self):
        """The ascending list of the finds."""
        return list(self._finds)

    def blocks(self):
        """The ascending list of the blocks."""
        return list(self._blocks)

    def nodes(self):
        """The ascending list of the nodes."""
        return sorted(self._nodes)

    def shape(self, lot):
        """Whether a node is a row or loose."""
        self._check_node(lot)
        return self._nodes[lot][1]

    def children(self, lot):
        """The list of the children of a node, by number."""
        self._check_node(lot)
        return list(self._nodes[lot][2])

    def depth(self, lot):
        """The number of the nodes that contain a node, or a lot of one find, other than itself."""
        if not is_lot_of(self._finds, lot) or len(lot) > 1:
            self._check_node(lot)
        return len([node for node in self._nodes if node != lot and is_within(lot, node)])

    def least_block(self, lot):
        """The least block that contains a lot."""
        check_lot(self._finds, lot)
        return min([(len(block), block) for block in self._blocks if is_within(lot, block)])[1]

    def parting(self, x, y):
        """The node at which two finds part."""
        for name in (x, y):
            if name not in self._finds:
                raise UnknownFind(name)
        if x == y:
            raise Same(x)
        return min([(len(node), node) for node in self._nodes if x in node and y in node])[1]

    def walk(self):
        """The depths, shapes and lots of all nodes, each node ahead of what is below it."""
        for lot, (depth, shape, _) in self._nodes.items():
            yield (depth, shape, lot)

    def fits(self, value):
        """Whether any value is an order that keeps all blocks."""
        return is_order(self._finds, value) and all([keeps(value, block) for block in self._blocks])

    def with_lot(self, lot):
        """The tree with a word more."""
        check_lot(self._finds, lot)
        return Tree(self._finds, [*self._blocks, lot])

    def within(self, other):
        """Whether each block is a block of another tree of the same finds."""
        self._check_finds_of(other)
        return all([block in other._blocks for block in self._blocks])

    def cut_to(self, lot):
        """The tree of the finds of a lot whose orders are those of this tree, cut to the lot."""
        check_lot(self._finds, lot)
        parts = [common(block, lot) for block in self._blocks]
        return Tree(list(lot), [part for part in parts if len(part) > 0])

    def text(self):
        """The text of the tree."""
        return self._text_of(tuple(self._finds))

    @staticmethod
    def read(text):
        """The tree with a text."""
        if not isinstance(text, str):
            raise InvalidText(0, "form")
        words = _words_in(text)
        finds = [word for word in words if word not in _SIGNS]
        if not 1 <= len(finds) <= MOST_FINDS or not are_names(finds) or len(set(finds)) < len(finds):
            raise InvalidText(0, "form")
        lots = _lots_told(words)
        if lots is None:
            raise InvalidText(0, "form")
        tree = Tree(finds, lots)
        # Whatever else may be wrong, such as a child in a wrong place, the tree has another text then.
        if tree.text() != text:
            raise InvalidText(0, "form")
        return tree

    def _text_of(self, lot):
        """The text of a node or of a lot of one find."""
        if len(lot) == 1:
            return lot[0]
        _, shape, children = self._nodes[lot]
        told = " ".join([self._text_of(child) for child in children])
        return f"[{told}]" if shape == "row" else f"({told})"

    def _check_node(self, lot):
        """Raises UnknownNode unless any value is a node."""
        if not is_lot_of(self._finds, lot) or lot not in self._nodes:
            raise UnknownNode(lot)

    def _check_finds_of(self, other):
        """Raises OtherFinds unless another tree has the same finds."""
        if self._finds != other._finds:
            raise OtherFinds()

    def __add__(self, lot):
        return self.with_lot(lot)

    def __or__(self, other):
        self._check_finds_of(other)
        return Tree(self._finds, [*self._blocks, *other._blocks])

    def __and__(self, other):
        self._check_finds_of(other)
        return Tree(self._finds, [block for block in self._blocks if block in other._blocks])

    def __contains__(self, lot):
        return is_lot_of(self._finds, lot) and lot in self._blocks

    def __eq__(self, other):
        return isinstance(other, Tree) and self._finds == other._finds and self._blocks == other._blocks

    def __len__(self):
        return len(self._blocks)

    def __str__(self):
        return str(self.text())

    def __repr__(self):
        return f"Tree({self.text()})"


def tree_of(book):
    """The tree of a book."""
    return Tree(book.finds(), book.lots())


def _words_in(text):
    """The finds and brackets of the text of a tree."""
    for sign in _SIGNS:
        text = text.replace(sign, f" {sign} ")
    return [word for word in text.split(" ") if word != ""]


def _lots_told(words):
    """The lots that the brackets around finds tell; None if the brackets are not those of one tree."""
    lots = []
    groups = [[]]
    for word in words:
        if word in ("(", "["):
            groups.append([])
        elif word not in _SIGNS:
            groups[-1].append((word,))
        elif len(groups) == 1 or len(groups[-1]) == 0:
            return None
        else:
            children = groups.pop()
            if word == "]":
                lots.extend([joined(one, other) for one, other in zip(children, children[1:])])
            lot = lot_of([name for child in children for name in child])
            lots.append(lot)
            groups[-1].append(lot)
    return lots if len(groups) == 1 and len(groups[0]) == 1 else None
