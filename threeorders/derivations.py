"""Derivations: entries that show, line by line, what follows in a case."""

from threeorders.checks import is_listed
from threeorders.errors import InvalidText
from threeorders.facts import check_facts
from threeorders.lots import are_apart, common, is_lot, is_within, joined, overlap, rest
from threeorders.names import are_names, is_number, is_numeral
from threeorders.texts import lines_of

RULES = ("single", "all", "word", "union", "common", "rest", "fact", "apart", "across", "chain", "bar", "self")

_MANY_ELDERS = {
    "single": 0, "all": 0, "word": 1, "union": 2, "common": 2, "rest": 2,
    "fact": 1, "apart": 3, "across": 3, "chain": 2, "bar": 3, "self": 1,
}
_RULES_WITH_A_MARK = ("word", "fact")
_MOST_DIGITS = 3
_NEVER = ("never",)


def is_statement(value):
    """Whether any value is a statement, with any names."""
    if not isinstance(value, tuple) or len(value) == 0:
        return False
    if value[0] == "lot":
        return len(value) == 2 and is_lot(value[1])
    return value == _NEVER or _is_before(value)


def is_statement_of(finds, value):
    """Whether any value is a statement with names of some finds alone."""
    if not is_statement(value):
        return False
    return is_within(value[1] if value[0] == "lot" else value[1:], finds)


def first_fault(book, facts, entries):
    """The index of the first entry that is not right in a case, -1 for no list, None if there is no fault."""
    check_facts(book.finds(), facts)
    if not is_listed(entries):
        return -1
    for at, entry in enumerate(entries):
        if not _is_entry(entry, at) or not _is_right(book, facts, entries, entry):
            return at
    return None


def shows(book, facts, entries, statement):
    """Whether any values are a derivation in a case and the statement that it shows."""
    fault = first_fault(book, facts, entries)
    return fault is None and len(entries) > 0 and entries[-1][0] == statement


def shortened(entries):
    """The entries that the last one of a derivation needs."""
    needed = [at == len(entries) - 1 for at in range(len(entries))]
    for at in reversed(range(len(entries))):
        if needed[at]:
            for elder in _numbers_in(entries[at]):
                needed[elder] = True
    kept = [at for at in range(len(entries)) if needed[at]]
    return [_renumbered(entries[at], kept) for at in kept]


def write_entries(entries):
    """The text of a derivation, or of entries that were read."""
    return "".join([_entry_text(entry) + "\n" for entry in entries])


def read_entries(text):
    """The list of the entries with a text, whether or not they are right."""
    found = []
    for at, line in enumerate(lines_of(text)):
        entry = _read_entry(line)
        if entry is None:
            raise InvalidText(at, "form")
        found.append(entry)
    return found


def _is_before(value):
    """Whether a tuple is a statement that one find stands before another one."""
    return len(value) == 3 and value[0] == "before" and are_names(value[1:])


def _is_entry(value, at):
    """Whether any value has the form of the entry with an index."""
    if not isinstance(value, tuple) or len(value) != 3:
        return False
    statement, rule, elders = value
    if not is_statement(statement) or rule not in RULES:
        return False
    if not isinstance(elders, tuple) or len(elders) != _MANY_ELDERS[rule]:
        return False
    return rule in _RULES_WITH_A_MARK or all([is_number(elder, 0, at - 1) for elder in elders])


def _is_right(book, facts, entries, entry):
    """Whether an entry, which has the form of one, is right behind right ones."""
    statement, rule, elders = entry
    if rule in _GIVEN:
        is_given = _GIVEN[rule]
        return is_given(book, facts, statement, elders)
    follows_from = _DRAWN[rule]
    return follows_from(statement, [entries[elder][0] for elder in elders])


def _is_single(book, facts, statement, elders):
    return statement[0] == "lot" and len(statement[1]) == 1 and statement[1][0] in book.finds()


def _is_all(book, facts, statement, elders):
    return statement == ("lot", tuple(book.finds()))


def _is_word(book, facts, statement, elders):
    return elders[0] in book and statement == ("lot", book.word(elders[0]))


def _is_of_fact(book, facts, statement, elders):
    if statement[0] != "before":
        return False
    said = [_says(fact, statement[1], statement[2]) for mark, fact in facts if mark == elders[0]]
    return any(said) and is_within(statement[1:], book.finds())


def _says(fact, x, y):
    """Whether a fact says of two finds that the first one stands before the other one."""
    if fact[0] == "first":
        return x == fact[1] and y != x
    if fact[0] == "last":
        return y == fact[1] and y != x
    return fact == ("before", x, y)


def _have_lots(told):
    """Whether all statements have lots."""
    return all([statement[0] == "lot" for statement in told])


def _are_befores(told):
    """Whether all statements say that one find stands before another one."""
    return all([statement[0] == "before" for statement in told])


def _have_overlap(told):
    """Whether the first two statements have lots that overlap."""
    return _have_lots(told[:2]) and overlap(told[0][1], told[1][1])


def _is_union(statement, told):
    return _have_overlap(told) and statement == ("lot", joined(told[0][1], told[1][1]))


def _is_common(statement, told):
    return _have_overlap(told) and statement == ("lot", common(told[0][1], told[1][1]))


def _is_rest(statement, told):
    return _have_overlap(told) and statement == ("lot", rest(told[0][1], told[1][1]))


def _is_apart(statement, told):
    if not _have_lots(told[:2]) or not _are_befores([told[2], statement]):
        return False
    one, other = told[0][1], told[1][1]
    return are_apart(one, other) and all([x in one and y in other for _, x, y in (told[2], statement)])


def _is_across(statement, told):
    if not _have_overlap(told) or not _are_befores([told[2], statement]):
        return False
    parts = [_part_of(name, told[0][1], told[1][1]) for name in told[2][1:] + statement[1:]]
    if -1 in parts:
        return False
    u, v, x, y = parts
    return u != v and x != y and (u < v) == (x < y)


def _part_of(name, one, other):
    """The number of the part of two lots that overlap in which a name is; -1 if it is in none."""
    if name in one:
        return 1 if name in other else 0
    return 2 if name in other else -1


def _is_chain(statement, told):
    if not _are_befores(told) or told[0][2] != told[1][1]:
        return False
    return statement == ("before", told[0][1], told[1][2])


def _is_bar(statement, told):
    if statement != _NEVER or not _have_overlap(told):
        return False
    one, other = told[0][1], told[1][1]
    return told[2] == ("lot", joined(rest(one, other), rest(other, one)))


def _is_self(statement, told):
    return statement == _NEVER and _are_befores(told) and told[0][1] == told[0][2]


_GIVEN = {"single": _is_single, "all": _is_all, "word": _is_word, "fact": _is_of_fact}
_DRAWN = {
    "union": _is_union, "common": _is_common, "rest": _is_rest, "apart": _is_apart,
    "across": _is_across, "chain": _is_chain, "bar": _is_bar, "self": _is_self,
}


def _numbers_in(entry):
    """The numbers of entries among the elders of an entry."""
    return () if entry[1] in _RULES_WITH_A_MARK else entry[2]


def _renumbered(entry, kept):
    """The entry with the numbers that its elders have among the kept ones."""
    statement, rule, elders = entry
    if rule in _RULES_WITH_A_MARK:
        return entry
    return (statement, rule, tuple([kept.index(elder) for elder in elders]))


def _entry_text(entry):
    statement, rule, elders = entry
    words = ["lot", *statement[1]] if statement[0] == "lot" else statement
    return " ".join(words) + ": " + " ".join([rule] + [str(elder) for elder in elders])


def _read_entry(line):
    """The entry of a line; None if the line has another form."""
    told, _, ground = line.partition(": ")
    statement = _read_statement(told.split(" "))
    rule = ground.split(" ")[0]
    words = ground.split(" ")[1:]
    if not is_statement(statement) or rule not in RULES or len(words) != _MANY_ELDERS[rule]:
        return None
    if rule in _RULES_WITH_A_MARK:
        return (statement, rule, tuple(words)) if are_names(words) else None
    if not all([is_numeral(word, _MOST_DIGITS) for word in words]):
        return None
    return (statement, rule, tuple([int(word) for word in words]))


def _read_statement(words):
    """The statement that words tell, if they tell one."""
    if words[0] == "lot":
        return ("lot", tuple(words[1:]))
    return tuple(words)
