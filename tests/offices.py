"""A plain office by [39] to [43], and draws of deeds for it."""

from plain import MARKS, TWELVE, plain_case, plain_orders
from threeorders.errors import (
    DuplicateName, InUse, InvalidClaim, InvalidDeed, InvalidName, Taken, TooMany, UnknownFind, UnknownName,
)
from threeorders.names import is_name
from threeorders.office import Office
from threeorders.sayings import claim_names, is_claim

ITEMS = {"find": 3, "off": 2, "say": 4, "withdraw": 2, "leave": 2}
DIGGERS = ["dan", "eve", "max"]


def told_text(held, sayings):
    """The text of an office."""
    lines = [" ".join(["find", name, *sorted(held[name])]) for name in sorted(held)]
    lines += [" ".join(["say", digger, mark, claim[0], *claim_names(claim)]) for digger, mark, claim in sayings]
    return "".join(line + "\n" for line in lines)


def fault_of_deed(held, sayings, deed):
    """The error of a deed of the right form, in the order of [41], or None."""
    kinds = {kind for name in held for kind in held[name]}
    marks = [mark for _, mark, _ in sayings]
    if deed[0] == "find":
        _, name, new = deed
        wrong = [kind for kind in new if not is_name(kind)]
        double = [kind for at, kind in enumerate(new) if kind in new[:at]]
        taken = [kind for kind in new if kind in marks]
        return InvalidName(name) if not is_name(name) else Taken(name) if name in held \
            else TooMany(12) if len(held) == 12 else InvalidName(wrong[0]) if wrong \
            else DuplicateName(double[0]) if double else Taken(taken[0]) if taken \
            else TooMany(10) if len(kinds | set(new)) > 10 else None
    if deed[0] == "off":
        uses = [mark for _, mark, claim in sayings if deed[1] in claim_names(claim)]
        return UnknownFind(deed[1]) if deed[1] not in list(held) else InUse(uses[0]) if uses else None
    if deed[0] == "say":
        _, digger, mark, claim = deed
        unknown = [name for name in claim_names(claim) if name not in held] if is_claim(claim) else []
        return InvalidName(digger) if not is_name(digger) else InvalidName(mark) if not is_name(mark) \
            else Taken(mark) if mark in marks or mark in kinds else TooMany(30) if len(sayings) == 30 \
            else InvalidClaim() if not is_claim(claim) else UnknownFind(unknown[0]) if unknown else None
    named = marks if deed[0] == "withdraw" else [digger for digger, _, _ in sayings]
    return UnknownName(deed[1]) if deed[1] not in named else None


class PlainOffice:
    """Finds with kinds and sayings, with the deeds that made them step by step."""

    def __init__(self):
        self.done = []
        self.undone = []
        self.held, self.sayings = {}, []

    def fault_of(self, deeds):
        """The error that these deeds raise, and None, or None and what they make of finds and sayings."""
        for at, deed in enumerate(deeds):
            if not isinstance(deed, tuple) or not deed or not isinstance(deed[0], str) or len(deed) != ITEMS.get(deed[0]) \
                    or deed[0] == "find" and not isinstance(deed[2], (list, tuple)):
                return InvalidDeed(at), None
        held, sayings = dict(self.held), list(self.sayings)
        for deed in deeds:
            fault = fault_of_deed(held, sayings, deed)
            if fault is not None:
                return fault, None
            if deed[0] == "find":
                held[deed[1]] = tuple(deed[2])
            elif deed[0] == "off":
                del held[deed[1]]
            elif deed[0] == "say":
                sayings.append(deed[1:])
            else:
                at = 1 if deed[0] == "withdraw" else 0
                sayings = [saying for saying in sayings if saying[at] != deed[1]]
        return None, (held, sayings)

    def do(self, deeds):
        """Does deeds that raise no error."""
        _, (self.held, self.sayings) = self.fault_of(deeds)
        if deeds:
            self.done.append([(*deed[:2], tuple(deed[2])) if deed[0] == "find" else deed for deed in deeds])
            self.undone = []

    def go(self, back):
        """Takes a step back, or does it again."""
        if back:
            self.undone.append(self.done.pop())
        else:
            self.done.append(self.undone.pop())
        steps, undone = self.done, self.undone
        self.__init__()
        for step in steps:
            self.do(step)
        self.undone = undone

    def text(self):
        return told_text(self.held, self.sayings)


class ReadByHand:
    """The read case by [38] and [40]."""

    def __init__(self, held, sayings):
        self.heads = {name: name for name in sorted(held)}
        for _ in held:
            for _, _, claim in sayings:
                if claim[0] == "same":
                    least = min(self.heads[name] for name in claim[1:])
                    for name in claim[1:]:
                        self.heads[name] = least
        self.finds = sorted(set(self.heads.values()))
        self.held = {head: sorted({kind for name in held if self.heads[name] == head for kind in held[name]})
                     for head in self.finds}
        kinds = sorted({kind for name in held for kind in held[name]})
        self.words = [(kind, tuple(head for head in self.finds if kind in self.held[head])) for kind in kinds]
        self.words += [(mark, self.read(claim)[1]) for _, mark, claim in sayings if claim[0] == "together"]
        self.facts = [(mark, self.read(claim)) for _, mark, claim in sayings if claim[0] in ("before", "first", "last")]

    def read(self, told):
        if len(told) == 2 and isinstance(told[1], tuple):
            return (told[0], tuple(sorted({self.heads[name] for name in told[1]})))
        return (told[0], *[self.heads[name] for name in told[1:]])

    def orders(self):
        """The orders that fit the read book, and those that fit the read case."""
        orders = plain_orders(self.finds, [lot for _, lot in self.words])
        facts = [fact for _, fact in self.facts]
        if any(fact[0] == "before" and fact[1] == fact[2] for fact in facts):
            return orders, []
        return orders, plain_case(orders, self.facts)


def drawn_deed(draws, office, most_finds=6):
    """A deed that may mostly be done in a plain office."""
    wide = TWELVE[:most_finds]
    finds = sorted(office.held) if office.held and draws.below(8) else wide
    word = ("find", "find", "say", "say", "say", "say", "off", "withdraw", "leave")[draws.below(9)]
    if word == "find":
        return ("find", wide[draws.below(len(wide))], tuple(draws.order(MARKS[:3])[:draws.below(3)]))
    if word == "off":
        return ("off", finds[draws.below(len(finds))])
    if word in ("withdraw", "leave"):
        return (word, MARKS[2 + draws.below(8)] if word == "withdraw" else DIGGERS[draws.below(3)])
    x, y = finds[draws.below(len(finds))], finds[draws.below(len(finds))]
    claim = [("together", draws.lot(finds)), ("before", x, y), ("before", x, y), ("first", x), ("last", x),
             ("same", x, y)][draws.below(6)]
    return ("say", DIGGERS[draws.below(3)], MARKS[2 + draws.below(8)], claim)


def drawn_office(draws, most_deeds=12, most_finds=5):
    """An office and a plain one with the same deeds, all of which could be done."""
    office, plain = Office(), PlainOffice()
    for name in TWELVE[:1 + draws.below(most_finds)]:
        deed = ("find", name, [kind for kind in MARKS[:2] if draws.below(2)])
        office.do(deed)
        plain.do([deed])
    for _ in range(draws.below(most_deeds + 1)):
        deed = drawn_deed(draws, plain, most_finds)
        if plain.fault_of([deed])[0] is None:
            office.do(deed)
            plain.do([deed])
    return office, plain
