"""Answers of an office to lines of words."""

from threeorders.counting import count_orders, order_at
from threeorders.errors import (
    CannotStand, Clash, InvalidNumber, InvalidQuestion, NoFinds, NothingLeft, UnknownFind,
)
from threeorders.glue import told_by
from threeorders.names import is_numeral
from threeorders.outlooks import is_question, outlook
from threeorders.places import places
from threeorders.sayings import tuple_of
from threeorders.trees import tree_of

_MOST_DIGITS = 9


def answer_to(office, line):
    """The answer of an office to a line."""
    try:
        return _told(office, line)
    except (NoFinds, CannotStand, Clash, InvalidNumber, InvalidQuestion, UnknownFind, NothingLeft) as error:
        return f"error {error.code}"


def _told(office, line):
    """The answer of an office to a line, unless it raises an error."""
    words = line.split(" ")
    if "" in words or "\n" in line:
        return "unknown"
    if len(words) == 1 and words[0] in _SINGLE:
        tell = _SINGLE[words[0]]
        return tell(office)
    if len(words) == 2 and words[0] == "order" and is_numeral(words[1], _MOST_DIGITS):
        return " ".join(order_at(office.web(), int(words[1])))
    if len(words) == 2 and words[0] == "places":
        return _tell_places(office, words[1])
    if len(words) > 1 and words[0] == "outlook":
        return _tell_outlook(office, tuple_of(words[1:]))
    return "unknown"


def _tell_places(office, name):
    """The places of a find, which may be any word."""
    web = office.web()
    heads = office.heads()
    if name not in heads:
        raise UnknownFind(name)
    return " ".join([str(place) for place in places(web, heads[name])])


def _tell_outlook(office, question):
    """The outlook of a question, which may be a tuple of any words."""
    web = office.web()
    if not is_question(office.finds(), question):
        raise InvalidQuestion()
    return outlook(web, told_by(office.heads(), question))


def _tell_finds(office):
    heads = office.heads()
    return " ".join(sorted(set(list(heads.values())))) if len(heads) > 0 else "none"


def _tell_stands(office):
    return "yes" if office.stands else "no"


def _tell_tree(office):
    return tree_of(office.book()).text()


def _tell_many(office):
    return str(count_orders(office.web()))


def _tell_sayings(office):
    marks = [saying.mark for saying in office.sayings()]
    return " ".join(marks) if len(marks) > 0 else "none"


def _tell_undo(office):
    office.undo()
    return "done"


def _tell_redo(office):
    office.redo()
    return "done"


_SINGLE = {
    "finds": _tell_finds, "stands": _tell_stands, "tree": _tell_tree, "many": _tell_many,
    "sayings": _tell_sayings, "undo": _tell_undo, "redo": _tell_redo,
}
