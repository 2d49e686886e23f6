"""Deeds: what may be done in an office, and what may stand against it."""

from threeorders.checks import MOST_FINDS, check_different, is_listed
from threeorders.errors import InUse, InvalidClaim, InvalidDeed, InvalidName, Taken, TooMany, UnknownFind, UnknownName
from threeorders.names import is_name
from threeorders.sayings import Saying, claim_names, is_claim
from threeorders.states import State
from threeorders.tables import MOST_KINDS

MOST_SAYINGS = 30
_MANY_ITEMS = {"find": 3, "off": 2, "say": 4, "withdraw": 2, "leave": 2}


def deeds_of(values):
    """The list of the deeds that some values are, with tuples of kinds."""
    for at, value in enumerate(values):
        if not _is_deed(value):
            raise InvalidDeed(at)
    return [("find", value[1], tuple(value[2])) if value[0] == "find" else value for value in values]


def state_behind(state, deeds):
    """The state behind some deeds that are done in a state."""
    for deed in deeds:
        do_deed = _DOINGS[deed[0]]
        items = deed[1:]
        state = do_deed(state, *items)
    return state


def _is_deed(value):
    """Whether any value has the form of a deed."""
    if not isinstance(value, tuple) or len(value) == 0 or not isinstance(value[0], str):
        return False
    if value[0] not in _MANY_ITEMS or len(value) != _MANY_ITEMS[value[0]]:
        return False
    return value[0] != "find" or is_listed(value[2])


def _with_find(state, name, kinds):
    """The state with one find more."""
    _check_name(name)
    if name in state.finds():
        raise Taken(name)
    if len(state.finds()) == MOST_FINDS:
        raise TooMany(MOST_FINDS)
    for kind in kinds:
        _check_name(kind)
    check_different(kinds)
    for kind in kinds:
        if kind in state.said_marks():
            raise Taken(kind)
    if len(set([*state.kinds(), *kinds])) > MOST_KINDS:
        raise TooMany(MOST_KINDS)
    held = state.held()
    held[name] = list(kinds)
    return State(held, state.sayings())


def _without_find(state, name):
    """The state without a find."""
    if name not in state.finds():
        raise UnknownFind(name)
    for saying in state.sayings():
        if name in claim_names(saying.claim):
            raise InUse(saying.mark)
    return State({other: kinds for other, kinds in state.held().items() if other != name}, state.sayings())


def _with_saying(state, digger, mark, claim):
    """The state with one saying more, behind the others."""
    _check_name(digger)
    _check_name(mark)
    if mark in state.said_marks() or mark in state.kinds():
        raise Taken(mark)
    if len(state.said_marks()) == MOST_SAYINGS:
        raise TooMany(MOST_SAYINGS)
    if not is_claim(claim):
        raise InvalidClaim()
    for name in claim_names(claim):
        if name not in state.finds():
            raise UnknownFind(name)
    return State(state.held(), [*state.sayings(), Saying(digger, mark, claim)])


def _without_saying(state, mark):
    """The state without the saying with a mark."""
    if mark not in state.said_marks():
        raise UnknownName(mark)
    return State(state.held(), [saying for saying in state.sayings() if saying.mark != mark])


def _without_digger(state, digger):
    """The state without the sayings of a digger."""
    left = [saying for saying in state.sayings() if saying.digger != digger]
    if len(left) == len(state.sayings()):
        raise UnknownName(digger)
    return State(state.held(), left)


def _check_name(value):
    """Raises InvalidName unless any value is a name."""
    if not is_name(value):
        raise InvalidName(value)


_DOINGS = {
    "find": _with_find, "off": _without_find, "say": _with_saying, "withdraw": _without_saying,
    "leave": _without_digger,
}
