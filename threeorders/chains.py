"""Chains: derivations of what follows in a case."""

from threeorders.bars import bar_entries, is_standing
from threeorders.closing import Closing
from threeorders.derivations import is_statement_of, shortened
from threeorders.errors import InvalidStatement, NotShown
from threeorders.facts import check_facts
from threeorders.links import befores_in, link_of
from threeorders.lots import lot_of
from threeorders.paths import path_along
from threeorders.trees import tree_of
from threeorders.webs import Web

_NEVER = ("never",)


def derived(book, facts, statement):
    """A shortened derivation in a case that shows a statement."""
    check_facts(book.finds(), facts)
    if not is_statement_of(book.finds(), statement):
        raise InvalidStatement()
    if statement == _NEVER and not is_standing(book):
        return bar_entries(book)
    tree = tree_of(book)
    if statement != _NEVER:
        # Where no order fits, nothing else is shown: the web is asked for its error alone.
        Web(tree, facts)
    draft = Draft(book, facts, tree)
    number = draft.show(statement)
    if number is None:
        raise NotShown()
    return shortened(draft.entries_to(number))


class Draft:
    """Entries of a derivation in a case whose book stands: those of the blocks, and behind them what is drawn."""

    def __init__(self, book, facts, tree):
        self._tree = tree
        self._closing = Closing(book.finds(), book.words())
        self._entries = self._closing.entries_to(len(self._closing) - 1)
        # What the facts say: the mark, the two finds, the node at which they part, and the link there.
        self._told = []
        for mark, fact in facts:
            for x, y in befores_in(book.finds(), fact):
                node, link = (None, None) if x == y else link_of(self._tree, x, y)
                self._told.append((mark, x, y, node, link))

    def entries_to(self, number):
        """The entries up to a number."""
        return self._entries[:number + 1]

    def show(self, statement):
        """The number of an entry with a statement, or None if there can be none."""
        if statement == _NEVER:
            return self._show_never()
        if statement[0] == "lot":
            return self._closing.number_of(statement[1]) if statement[1] in self._closing else None
        _, x, y = statement
        return None if x == y else self._show_before(x, y)

    def _show_never(self):
        """The number of an entry that no order fits, or None."""
        for mark, x, y, node, _ in self._told:
            if node is None:
                return self._note(_NEVER, "self", (self._note_fact(mark, x, y),))
            back = self._show_before(y, x)
            if back is not None:
                ring = self._note(("before", x, x), "chain", (self._note_fact(mark, x, y), back))
                return self._note(_NEVER, "self", (ring,))
        return None

    def _show_before(self, x, y):
        """The number of an entry that a find stands before another one, or None."""
        node, link = link_of(self._tree, x, y)
        sources = {}
        for mark, u, v, at, given in self._told:
            if at == node:
                sources.setdefault(given, (mark, u, v))
        if self._tree.shape(node) == "row":
            return self._show_in_row(self._tree.children(node), link, sources, (x, y))
        return self._show_over(self._tree.children(node), link, sources, (x, y))

    def _show_in_row(self, children, link, sources, pair):
        """The number of an entry that two finds stand in the direction that a fact gives their row, or None."""
        i, j = link
        alike = [given for given in sources if (given[0] < given[1]) == (i < j)]
        if len(alike) == 0:
            return None
        mark, u, v = sources[alike[0]]
        number = self._note_fact(mark, u, v)
        if (u, v) == pair:
            return number
        low, high = _cuts(min(alike[0]), min(link))
        elders = (self._number_of(children[:high]), self._number_of(children[low:]), number)
        return self._note(("before", *pair), "across", elders)

    def _show_over(self, children, link, sources, pair):
        """The number of an entry that two finds stand as the links of their loose node lead, or None."""
        path = path_along(list(sources), link[0], link[1])
        if path is None:
            return None
        names = [pair[0], *[children[number - 1][0] for number in path[1:-1]], pair[1]]
        shown = None
        for at in range(len(path) - 1):
            lots = [children[path[at] - 1], children[path[at + 1] - 1]]
            step = self._show_step(lots, sources[(path[at], path[at + 1])], (names[at], names[at + 1]))
            shown = step if at == 0 else self._note(("before", names[0], names[at + 1]), "chain", (shown, step))
        return shown

    def _show_step(self, lots, source, pair):
        """The number of an entry that two finds of two children stand as a fact puts these."""
        mark, u, v = source
        number = self._note_fact(mark, u, v)
        if (u, v) == pair:
            return number
        elders = (self._number_of(lots[:1]), self._number_of(lots[1:]), number)
        return self._note(("before", *pair), "apart", elders)

    def _note_fact(self, mark, x, y):
        """The number of a new entry that a fact says that a find stands before another one."""
        return self._note(("before", x, y), "fact", (mark,))

    def _number_of(self, children):
        """The number of the entry of a block that is the union of children."""
        return self._closing.number_of(lot_of([name for child in children for name in child]))

    def _note(self, statement, rule, elders):
        """The number of a new entry."""
        self._entries.append((statement, rule, elders))
        return len(self._entries) - 1


def _cuts(one, other):
    """The ascending pair of two different cuts of a row: these two, or if they are one, this one and another one.

    A cut is told by the number of the child ahead of it. The blocks up to the one cut and from the other one on
    overlap, and children between which one of the cuts lies are in different parts of them.
    """
    if one == other:
        other = 2 if one == 1 else 1
    return min(one, other), max(one, other)
