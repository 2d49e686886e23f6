"""The nodes of a tree, found from its blocks, which are given by their masks."""

from threeorders.masks import crosses, lot_with


def nodes_of(finds, masks):
    """A dict from the nodes, as a walk comes by them, to their depths, shapes and lists of children by number."""
    blocks = {mask: True for mask in masks}
    # A block has a greater mask than each one within it, so each node stands ahead of what is below it.
    strong = [one for one in sorted(masks, reverse=True) if not any([crosses(one, other) for other in masks])]
    return {
        lot_with(finds, node): (depth, shape, [lot_with(finds, child) for child in children])
        for node, depth, shape, children in _walked(strong[0], 0, strong, blocks)
    }


def _walked(block, depth, strong, blocks):
    """What a walk comes by from a strong block on: nodes with their depths, shapes and children."""
    if block == _least_bit(block):
        return []
    children = _children(block, strong)
    shape = "loose"
    if _is_row(children, blocks):
        children = _in_row(children, blocks)
        shape = "row"
    walked = [(block, depth, shape, children)]
    for child in children:
        walked.extend(_walked(child, depth + 1, strong, blocks))
    return walked


def _least_bit(mask):
    """The bit of the least find of a lot."""
    return mask & -mask


def _children(node, strong):
    """The greatest strong blocks within a node, by their least finds."""
    left = node
    children = []
    for block in strong:
        if block != node and block & left == block:
            children.append((_least_bit(block), block))
            left = left ^ block
    return [block for _, block in sorted(children)]


def _beside(one, children, blocks):
    """The children that are neighbours of a child in a row: those with which it has a block as its union."""
    return [other for other in children if other != one and one | other in blocks]


def _is_row(children, blocks):
    """Whether the children of a node are those of a row."""
    return len(children) > 2 and len(_beside(children[0], children, blocks)) > 0


def _in_row(children, blocks):
    """The children of a row, which stand by their least finds, by number."""
    # The first one that has a single neighbour is that end of the row which has the lesser least find.
    row = [[one for one in children if len(_beside(one, children, blocks)) == 1][0]]
    while len(row) < len(children):
        row.append([other for other in _beside(row[-1], children, blocks) if other not in row][0])
    return row
