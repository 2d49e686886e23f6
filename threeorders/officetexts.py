"""The texts of offices and of journals."""

from threeorders.deeds import MOST_SAYINGS
from threeorders.errors import InvalidText
from threeorders.names import are_names
from threeorders.office import Office, office_in
from threeorders.sayings import Saying, claim_names, claim_text, read_claim
from threeorders.states import State
from threeorders.tables import fault_of_find
from threeorders.texts import lines_of


def write_office(office):
    """The text of an office."""
    return office.text()


def read_office(text):
    """The office with a text."""
    holdings = []
    sayings = []
    for at, line in enumerate(lines_of(text)):
        words = line.split(" ")
        saying = _deed_in(words) if words[0] == "say" else None
        if saying is not None:
            why = _fault_of_saying(saying, holdings, sayings)
        else:
            why = fault_of_find(words, holdings) if len(sayings) == 0 else "form"
        if why is not None:
            raise InvalidText(at, why)
        if saying is None:
            holdings.append((words[1], words[2:]))
        else:
            _, digger, mark, claim = saying
            sayings.append(Saying(digger, mark, claim))
    return office_in(State(dict(holdings), sayings))


def write_journal(journal):
    """The text of a journal."""
    return "".join(["".join(["step\n", *[_deed_text(deed) + "\n" for deed in step]]) for step in journal])


def read_journal(text):
    """The list of the steps of a journal with a text."""
    steps = []
    lines = lines_of(text)
    for at, line in enumerate(lines):
        deed = _deed_in(line.split(" "))
        if deed is not None and len(steps) > 0:
            steps[-1].append(deed)
        elif line == "step" and (len(steps) == 0 or len(steps[-1]) > 0):
            steps.append([])
        else:
            raise InvalidText(at, "form")
    if len(steps) > 0 and len(steps[-1]) == 0:
        raise InvalidText(len(lines), "form")
    return steps


def played(journal):
    """An office in which the steps of a journal were done."""
    office = Office()
    for step in journal:
        office.do(*step)
    return office


def _fault_of_saying(saying, holdings, sayings):
    """What is wrong with the saying of a line behind what the lines ahead told; None if nothing is."""
    _, _, mark, claim = saying
    if len(sayings) == MOST_SAYINGS:
        return "many"
    finds = [find for find, _ in holdings]
    kinds = [kind for _, held in holdings for kind in held]
    if mark in kinds or mark in [earlier.mark for earlier in sayings]:
        return "double"
    if not all([name in finds for name in claim_names(claim)]):
        return "unknown"
    return None


def _deed_text(deed):
    """The line of a deed, without a line feed."""
    if deed[0] == "find":
        return " ".join(["find", deed[1], *deed[2]])
    if deed[0] == "say":
        return " ".join(["say", deed[1], deed[2], claim_text(deed[3])])
    return " ".join(deed)


def _deed_in(words):
    """The deed that the words of a line tell; None if they tell none."""
    if words[0] == "find" and len(words) > 1 and are_names(words[1:]):
        return ("find", words[1], tuple(words[2:]))
    if words[0] in ("off", "withdraw", "leave") and len(words) == 2 and are_names(words[1:]):
        return tuple(words)
    if words[0] == "say" and len(words) > 3 and are_names(words[1:3]):
        claim = read_claim(" ".join(words[3:]))
        return None if claim is None else ("say", words[1], words[2], claim)
    return None
