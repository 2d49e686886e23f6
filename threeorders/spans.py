"""Spans: from where to where the finds of a lot lie, and how two such spans lie to one another."""

from threeorders.arranging import order_where
from threeorders.books import book_of
from threeorders.errors import InvalidNumber, NotABlock, NotFitting, OtherFinds
from threeorders.lots import is_within, rest
from threeorders.names import is_number
from threeorders.orders import keeps
from threeorders.places import places

_TURNED = {"earlier": "later", "equal": "equal", "later": "earlier"}


def span_in(order, lot):
    """The pair of the first and the last place of a lot."""
    if not keeps(order, lot):
        raise NotFitting()
    found = [order.index(name) for name in lot]
    return min(found), max(found)


def spans_of(table, order):
    """A dict from the kinds of a table to their spans in an order."""
    if not book_of(table).fits(order):
        raise NotFitting()
    return {kind: span_in(order, table.lot_of_kind(kind)) for kind in table.kinds()}


def relation_in(order, one, other):
    """The relation of a lot to another one in an order."""
    first, last = span_in(order, one)
    start, end = span_in(order, other)
    return _compared(first, start), _compared(last, end)


def relations(web, one, other):
    """A dict from the relations of a block to another one that come in orders that fit to such orders."""
    for lot in (one, other):
        if lot not in web.tree:
            raise NotABlock(lot)
    if is_within(one, other) and one != other:
        found = _found(web, _facts_within(other, one))
        told = {(_TURNED[first], _TURNED[last]): found[first, last] for first, last in found}
        return {relation: told[relation] for relation in sorted(told)}
    listed = _facts_within(one, other) if is_within(other, one) else _facts_beside(one, other)
    return _found(web, listed)


def kinds_at(web, table, place):
    """The ascending list of the kinds that the find with a place holds in some order that fits."""
    if table.finds() != web.tree.finds():
        raise OtherFinds()
    if not is_number(place, 0, len(table) - 1):
        raise InvalidNumber(place)
    there = [name for name in table.finds() if place in places(web, name)]
    return [kind for kind in table.kinds() if any([table.holds(name, kind) for name in there])]


def _compared(one, other):
    """The word that says how a place lies to another one."""
    if one == other:
        return "equal"
    return "earlier" if one < other else "later"


def _found(web, listed):
    """A dict from relations, ascending, to orders in which they come; each is told with lists of facts for it."""
    found = {}
    for relation, facts in listed:
        order = None if relation in found else order_where(web, facts)
        if order is not None:
            found[relation] = order
    return found


def _facts_beside(one, other):
    """The relations of two blocks that are apart or overlap, with facts: any find of a rest stands for all of it."""
    x, y = rest(one, other)[0], rest(other, one)[0]
    return [(("earlier", "earlier"), [("before", x, y)]), (("later", "later"), [("before", y, x)])]


def _facts_within(one, other):
    """The relations of a block to one that is within it, with facts: any find of the inner one stands for all of it."""
    if one == other:
        return [(("equal", "equal"), [])]
    others = rest(one, other)
    inner = other[0]
    ahead = [(("earlier", "equal"), [("before", name, inner) for name in others])]
    behind = [(("equal", "later"), [("before", inner, name) for name in others])]
    return ahead + [
        (("earlier", "later"), [("before", x, inner), ("before", inner, y)]) for x in others for y in others if x != y
    ] + behind
