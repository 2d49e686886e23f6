"""Tables: which finds hold which kinds."""

from threeorders.checks import MOST_FINDS, check_different, is_listed
from threeorders.errors import InvalidFind, InvalidText, TooMany, UnknownFind, UnknownName
from threeorders.names import are_names, is_name
from threeorders.texts import lines_of

MOST_KINDS = 10


class Table:
    """Finds and, for each of them, the kinds that it holds."""

    def __init__(self, holdings):
        if not is_listed(holdings) or len(holdings) == 0:
            raise InvalidFind(-1)
        if len(holdings) > MOST_FINDS:
            raise TooMany(MOST_FINDS)
        for at, holding in enumerate(holdings):
            if not _is_holding(holding):
                raise InvalidFind(at)
        check_different([name for name, _ in holdings])
        if len(_kinds_in(holdings)) > MOST_KINDS:
            raise TooMany(MOST_KINDS)
        held = {name: sorted(kinds) for name, kinds in holdings}
        self._held = {name: held[name] for name in sorted(held)}

    def finds(self):
        """The ascending list of the finds."""
        return list(self._held)

    def kinds(self):
        """The ascending list of the kinds."""
        return _kinds_in(list(self._held.items()))

    def kinds_of(self, name):
        """The ascending list of the kinds of a find."""
        if name not in self:
            raise UnknownFind(name)
        return list(self._held[name])

    def lot_of_kind(self, kind):
        """The lot of the finds that hold a kind."""
        if kind not in self.kinds():
            raise UnknownName(kind)
        return tuple([name for name in self._held if kind in self._held[name]])

    def holds(self, name, kind):
        """Whether any values are a find and a kind that it holds."""
        return name in self and kind in self._held[name]

    def text(self):
        """The text of the table."""
        return "".join([" ".join(["find", name, *kinds]) + "\n" for name, kinds in self._held.items()])

    @staticmethod
    def read(text):
        """The table with a text."""
        holdings = []
        for at, line in enumerate(lines_of(text)):
            words = line.split(" ")
            why = fault_of_find(words, holdings)
            if why is not None:
                raise InvalidText(at, why)
            holdings.append((words[1], words[2:]))
        if len(holdings) == 0:
            raise InvalidText(0, "missing")
        return Table(holdings)

    def __contains__(self, name):
        return is_name(name) and name in self._held

    def __eq__(self, other):
        return isinstance(other, Table) and self._held == other._held

    def __len__(self):
        return len(self._held)

    def __str__(self):
        return str(self.text())

    def __repr__(self):
        return f"Table({len(self._held)} finds, {len(self.kinds())} kinds)"


def _is_holding(value):
    """Whether any value is a pair of a find and different kinds."""
    if not isinstance(value, tuple) or len(value) != 2 or not is_name(value[0]) or not is_listed(value[1]):
        return False
    return are_names(value[1]) and len(set(value[1])) == len(value[1])


def _kinds_in(holdings):
    """The ascending list of the kinds that some finds hold."""
    return sorted(set([kind for _, kinds in holdings for kind in kinds]))


def fault_of_find(words, holdings):
    """What is wrong with a line of a find behind the holdings of the lines ahead; None if nothing is."""
    names = words[1:]
    if words[0] != "find" or len(names) == 0 or not are_names(names) or names[1:] != sorted(set(names[1:])):
        return "form"
    if len(holdings) == MOST_FINDS or len(_kinds_in([*holdings, (names[0], names[1:])])) > MOST_KINDS:
        return "many"
    if len(holdings) > 0 and names[0] <= holdings[-1][0]:
        return "order"
    return None
