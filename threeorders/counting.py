"""Counting: the orders that fit a web, their number and their ranks."""

from threeorders.errors import InvalidNumber, NotFitting
from threeorders.names import is_number
from threeorders.ranking import Ranking


def count_orders(web):
    """The number of the orders that fit."""
    return _ranking_of(web).many()


def order_at(web, rank):
    """The order with a rank."""
    ranking = _ranking_of(web)
    if not is_number(rank, 0, ranking.many() - 1):
        raise InvalidNumber(rank)
    return ranking.order_at(rank)


def rank_of(web, order):
    """The rank of an order."""
    if not web.fits(order):
        raise NotFitting()
    return _ranking_of(web).rank_of(order)


def all_orders(web):
    """The orders that fit, ascending."""
    ranking = _ranking_of(web)
    begun = ranking.nothing()
    yield from _orders_behind(ranking, (), begun)


def _orders_behind(ranking, order, begun):
    """The orders that begin so, ascending."""
    nexts = ranking.nexts(order, begun)
    if len(nexts) == 0:
        yield order
    for name, longer in nexts:
        more = (*order, name)
        yield from _orders_behind(ranking, more, longer)


def _ranking_of(web):
    """The ranking of the orders that fit."""
    return Ranking(web.tree, {node: web.links(node) for node in web.tree.nodes()})
