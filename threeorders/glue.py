"""Glue: finds that are one, and what is told of finds, read by them."""

from threeorders.books import Book
from threeorders.checks import is_listed
from threeorders.errors import InvalidPair
from threeorders.lots import lot_of
from threeorders.names import are_names
from threeorders.tables import Table


def groups(names, pairs):
    """A dict from some names, ascending, to the heads of their groups."""
    if not is_listed(pairs):
        raise InvalidPair(-1)
    for at, pair in enumerate(pairs):
        if not isinstance(pair, tuple) or len(pair) != 2 or not are_names(pair):
            raise InvalidPair(at)
    told = [*names, *[name for pair in pairs for name in pair]]
    members = {name: [name] for name in told}
    for one, other in pairs:
        if other not in members[one]:
            both = members[one] + members[other]
            for name in both:
                members[name] = both
    return {name: min([each for each in members[name] if each in names]) for name in sorted(set(names))}


def table_by(table, pairs):
    """A table, read by pairs."""
    heads = groups(table.finds(), pairs)
    held = {head: [] for head in heads.values()}
    for name, head in heads.items():
        held[head] = held[head] + table.kinds_of(name)
    return Table([(head, sorted(set(kinds))) for head, kinds in held.items()])


def book_by(book, pairs):
    """A book, read by pairs."""
    heads = groups(book.finds(), pairs)
    return Book(sorted(set(list(heads.values()))), [(mark, told_by(heads, ("lot", lot))[1]) for mark, lot in book])


def facts_by(finds, facts, pairs):
    """A list of marked facts about some finds, read by pairs."""
    heads = groups(finds, pairs)
    return [(mark, told_by(heads, fact)) for mark, fact in facts]


def told_by(heads, told):
    """A fact, a statement, a question or a claim with the heads of its names in their places."""
    if len(told) == 2 and isinstance(told[1], tuple):
        return (told[0], lot_of([heads[name] for name in told[1]]))
    return (told[0], *[heads[name] for name in told[1:]])
