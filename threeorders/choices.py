"""Choices: what may be chosen at one node, and how the choices at different nodes are joined.

A choice has a number, a cost and rows: a dict from nodes to the ways that are chosen there. Choices are kept in a dict
from their numbers to pairs of cost and rows, so that of each number only a cheapest one is kept.
"""

from threeorders.checks import MOST_FINDS
from threeorders.errors import InvalidNumber
from threeorders.names import is_number


def put_choice(choices, number, cost, rows):
    """Puts a choice in, unless there is one with its number that costs no more."""
    if number not in choices or cost < choices[number][0]:
        choices[number] = (cost, rows)


def joined_choices(listed):
    """One choice from each of some dicts, joined in all ways: the numbers and the costs are added up."""
    joined = {0: (0, {})}
    for choices in listed:
        more = {}
        for number, (cost, rows) in joined.items():
            for other, (worth, found) in choices.items():
                put_choice(more, number + other, cost + worth, {**rows, **found})
        joined = more
    return joined


def rows_with(choices, number):
    """The rows of the choice with a number; raises InvalidNumber for any value that is no number of a choice."""
    if not is_number(number, 0, MOST_FINDS) or number not in choices:
        raise InvalidNumber(number)
    return choices[number][1]
