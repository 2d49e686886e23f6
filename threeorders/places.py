"""Places of finds, and the distances between two of them, in the orders that fit a web."""

from threeorders.arranging import arranging_of
from threeorders.choices import joined_choices, put_choice, rows_with
from threeorders.errors import UnknownFind


def places(web, name):
    """The ascending list of the places of a find."""
    _check_find(web, name)
    return sorted(_by_place(arranging_of(web), name))


def distances(web, x, y):
    """The ascending list of the numbers of finds that may stand between two finds."""
    return sorted(_by_distance(web, x, y))


def order_with_place(web, name, place):
    """An order that fits and in which a find has a place."""
    _check_find(web, name)
    arranging = arranging_of(web)
    return arranging.order(rows_with(_by_place(arranging, name), place))


def order_with_distance(web, x, y, distance):
    """An order that fits and in which a number of finds stand between two finds."""
    return arranging_of(web).order(rows_with(_by_distance(web, x, y), distance))


def _check_find(web, name):
    """Raises UnknownFind unless any value is a find."""
    if name not in web.tree.finds():
        raise UnknownFind(name)


def _by_place(arranging, name):
    """The choices of the places of a find."""
    return joined_choices([_ahead(arranging, node, name) for node in arranging.nodes() if name in node])


def _by_distance(web, x, y):
    """The choices of the distances of two finds."""
    parting = web.tree.parting(x, y)
    arranging = arranging_of(web)
    below = [node for node in arranging.nodes() if len(node) < len(parting)]
    found = {}
    for one, other in ((x, y), (y, x)):
        listed = [_between(arranging, parting, one, other)]
        listed = listed + [_behind(arranging, node, one) for node in below if one in node]
        listed = listed + [_ahead(arranging, node, other) for node in below if other in node]
        for number, (cost, rows) in joined_choices(listed).items():
            put_choice(found, number, cost, rows)
    return found


def _ahead(arranging, node, name):
    """The choices of the numbers of finds of a node that stand ahead of the child with a find."""
    child = arranging.child_with(node, name)
    found = {}
    for lane in arranging.lanes(node):
        for start in lane.starts_ahead_of(child):
            number = arranging.many_in(node, start)
            if number not in found:
                found[number] = (0, {node: lane.row([start, start | 1 << (child - 1)])})
    return found


def _behind(arranging, node, name):
    """The choices of the numbers of finds of a node that stand behind the child with a find."""
    child = arranging.child_with(node, name)
    others = len(node) - len(arranging.children(node)[child - 1])
    return {others - number: choice for number, choice in _ahead(arranging, node, name).items()}


def _between(arranging, node, x, y):
    """The choices of the numbers of finds of a node between the child with a find and a later one with another find."""
    i, j = arranging.child_with(node, x), arranging.child_with(node, y)
    found = {}
    for lane in arranging.lanes(node):
        for start, between in lane.stretches(i, j):
            number = arranging.many_in(node, between)
            if number not in found:
                behind = start | 1 << (i - 1)
                stations = [start, behind, behind | between, behind | between | 1 << (j - 1)]
                found[number] = (0, {node: lane.row(stations)})
    return found
