"""Prices: what an order costs, and the cheapest orders that fit a web."""

from threeorders.arranging import arranging_of
from threeorders.choices import joined_choices, put_choice, rows_with
from threeorders.copies import copied
from threeorders.errors import InvalidTimes, InvalidWeights, UnknownFind
from threeorders.names import is_number
from threeorders.tolls import Tolls

_MOST = 999999


def cost(order, *, times, weights):
    """The cost of an order."""
    _check_prices(order, times, weights)
    return _cost_of(order, times, weights)


def cheapest(web, *, times, weights):
    """The pair of the cost of a cheapest order and such an order."""
    _check_prices(web.tree.finds(), times, weights)
    arranging = arranging_of(web)
    listed = [_anyhow(arranging, node, times, weights) for node in arranging.nodes()]
    order = arranging.order(rows_with(joined_choices(listed), 0))
    return _cost_of(order, times, weights), order


def cheapest_at(web, name, place, *, times, weights):
    """The same among the orders in which a find has a place."""
    if name not in web.tree.finds():
        raise UnknownFind(name)
    _check_prices(web.tree.finds(), times, weights)
    arranging = arranging_of(web)
    above = [node for node in arranging.nodes() if name in node]
    listed = [_anyhow(arranging, node, times, weights) for node in arranging.nodes() if node not in above]
    listed = listed + [_by_place(arranging, node, name, times, weights) for node in above]
    order = arranging.order(rows_with(joined_choices(listed), place))
    return _cost_of(order, times, weights), order


def lump(lot, *, times, weights):
    """The pair of new dicts in which a lot is lumped."""
    _check_prices(lot, times, weights)
    return _lumped(lot, times), _lumped(lot, weights)


def _check_prices(finds, times, weights):
    """Raises an error unless times and weights give numbers to all finds."""
    for name in sorted(finds):
        if not is_number(times.get(name), 1, _MOST):
            raise InvalidTimes(name)
    for name in sorted(finds):
        if not is_number(weights.get(name), 0, _MOST):
            raise InvalidWeights(name)


def _cost_of(order, times, weights):
    """The cost of an order with times and weights that were checked."""
    total = 0
    end = 0
    for name in order:
        end = end + times[name]
        total = total + weights[name] * end
    return total


def _lumped(lot, numbers):
    """A dict in which the least find of a lot has the sum of the lot, and the other finds of the lot are none."""
    found = {key: copied(worth) for key, worth in numbers.items() if key not in lot[1:]}
    found[lot[0]] = sum([numbers[name] for name in lot])
    return found


def _tolls(arranging, node, times, weights):
    """The tolls of the lanes of a node, where each child counts as one find."""
    children = arranging.children(node)
    lumped = [(sum([times[name] for name in lot]), sum([weights[name] for name in lot])) for lot in children]
    return [Tolls(lane, lumped) for lane in arranging.lanes(node)]


def _anyhow(arranging, node, times, weights):
    """The cheapest choice at a node, under the number 0."""
    found = {}
    for tolls in _tolls(arranging, node, times, weights):
        worth, row = tolls.cheapest()
        put_choice(found, 0, worth, {node: row})
    return found


def _by_place(arranging, node, name, times, weights):
    """The cheapest choices at a node by the numbers of its finds that stand ahead of the child with a find."""
    found = {}
    for tolls in _tolls(arranging, node, times, weights):
        for start, worth, row in tolls.cheapest_by_start(arranging.child_with(node, name)):
            put_choice(found, arranging.many_in(node, start), worth, {node: row})
    return found
