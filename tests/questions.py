"""Questions, and their outlooks by a going through of all orders that fit."""

import itertools

from plain import all_lots, plain_keeps


def all_questions(finds):
    """All questions about some finds."""
    questions = [("together", lot) for lot in all_lots(finds)]
    questions += [("before", x, y) for x, y in itertools.permutations(finds, 2)]
    questions += [(word, x) for x in finds for word in ("first", "last")]
    return questions + [("between", *names) for names in itertools.permutations(finds, 3)]


def is_true(order, question):
    """Whether a question is true by [26]."""
    word, told = question[0], question[1:]
    if word == "together":
        return plain_keeps(order, told[0])
    places = [order.index(name) for name in told]
    if word == "before":
        return places[0] < places[1]
    if word == "between":
        return places[0] < places[1] < places[2] or places[2] < places[1] < places[0]
    return places[0] == (0 if word == "first" else len(order) - 1)


def plain_outlook(orders, question):
    """The outlook of a question by [26], where the orders that fit are given."""
    said = {is_true(order, question) for order in orders}
    return "ever" if len(said) == 2 else ("surely" if True in said else "never")
