"""Facts: which find stands before another one, first or last."""

from threeorders.checks import check_different, is_listed
from threeorders.errors import InvalidFact, InvalidText, TooMany, UnknownFind
from threeorders.names import are_names, is_name
from threeorders.texts import lines_of

MOST_FACTS = 30
_MANY_NAMES = {"before": 2, "first": 1, "last": 1}
_TURNED = {"first": "last", "last": "first"}


def is_fact(value):
    """Whether any value is a fact."""
    if not isinstance(value, tuple) or len(value) == 0 or not isinstance(value[0], str):
        return False
    return value[0] in _MANY_NAMES and len(value) == _MANY_NAMES[value[0]] + 1 and are_names(value[1:])


def is_marked_fact(value):
    """Whether any value is a pair of a mark and a fact."""
    return isinstance(value, tuple) and len(value) == 2 and is_name(value[0]) and is_fact(value[1])


def names_in(fact):
    """The names of a fact, by place."""
    return list(fact[1:])


def fits_fact(order, fact):
    """Whether an order fits a fact about its finds."""
    if fact[0] == "first":
        return order[0] == fact[1]
    if fact[0] == "last":
        return order[-1] == fact[1]
    return order.index(fact[1]) < order.index(fact[2])


def turned_fact(fact):
    """The fact that is true in the turned orders."""
    if fact[0] == "before":
        return ("before", fact[2], fact[1])
    return (_TURNED[fact[0]], fact[1])


def fact_text(fact):
    """The items of a fact with single spaces between."""
    return " ".join(fact)


def check_facts(finds, facts):
    """Raises an error unless facts are marked facts about finds with different marks."""
    if not is_listed(facts):
        raise InvalidFact(-1)
    if len(facts) > MOST_FACTS:
        raise TooMany(MOST_FACTS)
    for at, marked in enumerate(facts):
        if not is_marked_fact(marked):
            raise InvalidFact(at)
    check_different([mark for mark, _ in facts])
    for _, fact in facts:
        for name in names_in(fact):
            if name not in finds:
                raise UnknownFind(name)


def write_facts(facts):
    """The text of a list of marked facts."""
    return "".join([f"fact {mark} {fact_text(fact)}\n" for mark, fact in facts])


def read_facts(text):
    """The list of marked facts with a text."""
    facts = []
    for at, line in enumerate(lines_of(text)):
        marked = _marked_fact_in(line)
        if marked is None:
            raise InvalidText(at, "form")
        if len(facts) == MOST_FACTS:
            raise InvalidText(at, "many")
        if marked[0] in [mark for mark, _ in facts]:
            raise InvalidText(at, "double")
        facts.append(marked)
    return facts


def _marked_fact_in(line):
    """The marked fact that a line tells; None if it has another form."""
    words = line.split(" ")
    if words[0] != "fact" or len(words) < 2:
        return None
    marked = (words[1], tuple(words[2:]))
    return marked if is_marked_fact(marked) else None
