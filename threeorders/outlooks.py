"""Outlooks: whether what is asked is true in all orders that fit a web, in some of them, or in none."""

from threeorders.arranging import order_fitting, order_where
from threeorders.errors import InvalidQuestion
from threeorders.facts import fits_fact
from threeorders.lots import is_lot_of, rest
from threeorders.orders import keeps
from threeorders.surely import may_together, surely_together

_MANY_FINDS = {"before": 2, "first": 1, "last": 1, "between": 3}


def is_question(finds, value):
    """Whether any value is a question about a list of finds."""
    if not isinstance(value, tuple) or len(value) == 0 or not isinstance(value[0], str):
        return False
    if value[0] == "together":
        return len(value) == 2 and is_lot_of(finds, value[1])
    if value[0] not in _MANY_FINDS or len(value) != _MANY_FINDS[value[0]] + 1:
        return False
    return all([name in finds and name not in value[1:at] for at, name in enumerate(value) if at > 0])


def holds(order, question):
    """Whether a question about its finds is true in an order."""
    if question[0] == "together":
        return keeps(order, question[1])
    return any([all([fits_fact(order, fact) for fact in facts]) for facts in _facts_for(question)])


def outlook(web, question):
    """Whether a question is surely, never or ever true."""
    _check_question(web, question)
    if question[0] == "together":
        may, surely = may_together(web, question[1]), surely_together(web, question[1])
    else:
        may = any([web.can_take(*facts) for facts in _facts_for(question)])
        surely = not any([web.can_take(*facts) for facts in _facts_against(web.tree.finds(), question)])
    if not may:
        return "never"
    return "surely" if surely else "ever"


def witness(web, question):
    """An order that fits and in which a question is true, and one in which it is not; None where there is none."""
    _check_question(web, question)
    against = _first_order(web, _facts_against(web.tree.finds(), question))
    if question[0] == "together":
        return _order_together(web, question[1]), against
    return _first_order(web, _facts_for(question)), against


def _check_question(web, question):
    """Raises InvalidQuestion unless any value is a question about the finds of a web."""
    if not is_question(web.tree.finds(), question):
        raise InvalidQuestion()


def _facts_for(question):
    """Lists of facts; a question that does not ask for a lot is true where all facts of one of them are."""
    if question[0] != "between":
        return [[question]]
    _, x, z, y = question
    return [[("before", x, z), ("before", z, y)], [("before", y, z), ("before", z, x)]]


def _facts_against(finds, question):
    """Lists of facts; a question is not true where all facts of one of them are."""
    if question[0] == "together":
        return [
            [("before", x, z), ("before", z, y)]
            for z in rest(finds, question[1]) for x in question[1] for y in question[1] if x != y
        ]
    if question[0] == "first":
        return [[("before", name, question[1])] for name in finds if name != question[1]]
    if question[0] == "last":
        return [[("before", question[1], name)] for name in finds if name != question[1]]
    if question[0] == "before":
        return [[("before", question[2], question[1])]]
    _, x, z, y = question
    return [[("before", z, x), ("before", z, y)], [("before", x, z), ("before", y, z)]]


def _first_order(web, listed):
    """An order that fits a web and all facts of one of some lists; None if there is none."""
    for facts in listed:
        order = order_where(web, facts)
        if order is not None:
            return order
    return None


def _order_together(web, lot):
    """An order that fits a web and keeps a lot; None if there is none."""
    if not may_together(web, lot):
        return None
    return order_fitting(web.tree.with_lot(lot), [fact for _, fact in web.facts()])
