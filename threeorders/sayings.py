"""Sayings: who claims what, and under which mark."""

from threeorders.errors import InvalidClaim, InvalidName
from threeorders.lots import is_lot
from threeorders.names import are_names, is_name

_MANY_NAMES = {"before": 2, "first": 1, "last": 1, "same": 2}


def is_claim(value):
    """Whether any value is a claim."""
    if not isinstance(value, tuple) or len(value) == 0 or not isinstance(value[0], str):
        return False
    if value[0] == "together":
        return len(value) == 2 and is_lot(value[1])
    if value[0] not in _MANY_NAMES or len(value) != _MANY_NAMES[value[0]] + 1:
        return False
    return are_names(value[1:]) and len(set(value[1:])) == len(value[1:])


def claim_names(claim):
    """The list of the names of a claim, in order."""
    return list(claim[1]) if claim[0] == "together" else list(claim[1:])


def claim_text(claim):
    """The items of a claim, those of a lot too, with single spaces between."""
    return " ".join([claim[0], *claim_names(claim)])


def read_claim(text):
    """The claim with a text; None for any value that is none."""
    if not isinstance(text, str):
        return None
    claim = tuple_of(text.split(" "))
    return claim if is_claim(claim) else None


def tuple_of(words):
    """The tuple of which some words are the items, where those behind the word together are the items of a lot."""
    if words[0] == "together":
        return ("together", tuple(words[1:]))
    return tuple(words)


class Saying:
    """What a digger claims, with a mark."""

    def __init__(self, digger, mark, claim):
        for name in (digger, mark):
            if not is_name(name):
                raise InvalidName(name)
        if not is_claim(claim):
            raise InvalidClaim()
        self.digger = digger
        self.mark = mark
        self.claim = claim

    def text(self):
        """The line of the saying, without a line feed."""
        return f"say {self.digger} {self.mark} {claim_text(self.claim)}"

    def __eq__(self, other):
        return isinstance(other, Saying) and self.digger == other.digger and self.mark == other.mark \
            and self.claim == other.claim

    def __repr__(self):
        return f"Saying({self.digger} says {self.mark})"
