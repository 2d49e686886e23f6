"""Webs: a tree with facts, which are put down at its nodes."""

from threeorders.errors import Clash, InvalidFact, UnknownFind, UnknownName, UnknownNode
from threeorders.facts import check_facts, fits_fact, is_fact, names_in
from threeorders.links import can_hold, links_of
from threeorders.trees import tree_of
from threeorders.ways import ways_of


class Web:
    """A tree and a list of marked facts that some order fits."""

    def __init__(self, tree, facts=()):
        check_facts(tree.finds(), facts)
        if not can_hold(tree, [fact for _, fact in facts], {}):
            raise Clash(_clash(tree, facts))
        self.tree = tree
        self._facts = list(facts)
        self._links = links_of(tree, [fact for _, fact in facts])

    def facts(self):
        """The list of the marked facts, in order."""
        return list(self._facts)

    def links(self, lot):
        """The ascending list of the links of a node."""
        return list(self._links_at(lot))

    def direction(self, lot):
        """Whether a node is loose, or else whether its direction is by number, the other one, or free."""
        links = self._links_at(lot)
        if self.tree.shape(lot) == "loose":
            return "loose"
        if len(links) == 0:
            return "free"
        i, j = links[0]
        return "ahead" if i < j else "back"

    def ways(self, lot):
        """The number of the ways of a node."""
        links = self._links_at(lot)
        return ways_of(self.tree.shape(lot), len(self.tree.children(lot)), links).left(())

    def fits(self, value):
        """Whether any value is an order that fits."""
        return self.tree.fits(value) and all([fits_fact(value, fact) for _, fact in self._facts])

    def with_fact(self, mark, fact):
        """The web with one more fact behind the others."""
        return Web(self.tree, self._facts + [(mark, fact)])

    def without(self, mark):
        """The web without the fact with a mark."""
        if mark not in [earlier for earlier, _ in self._facts]:
            raise UnknownName(mark)
        return Web(self.tree, [marked for marked in self._facts if marked[0] != mark])

    def can_take(self, *facts):
        """Whether some order that fits the web fits some facts, which have no marks."""
        for at, fact in enumerate(facts):
            if not is_fact(fact):
                raise InvalidFact(at)
        for fact in facts:
            for name in names_in(fact):
                if name not in self.tree.finds():
                    raise UnknownFind(name)
        return can_hold(self.tree, facts, self._links)

    def _links_at(self, lot):
        """The links of any value that is a node."""
        if lot not in self.tree.nodes():
            raise UnknownNode(lot)
        return self._links[lot]

    def __add__(self, marked):
        return Web(self.tree, self._facts + [marked])

    def __eq__(self, other):
        return isinstance(other, Web) and self.tree == other.tree and self._facts == other._facts

    def __len__(self):
        return len(self._facts)

    def __bool__(self):
        return True

    def __repr__(self):
        return f"Web({len(self._facts)} facts)"


def web_of(book, facts=()):
    """The web of a case."""
    check_facts(book.finds(), facts)
    return Web(tree_of(book), facts)


def _clash(tree, facts):
    """The marks of the facts that are left when each one is left out without which no order fits."""
    left = list(facts)
    for mark, _ in facts:
        fewer = [marked for marked in left if marked[0] != mark]
        if not can_hold(tree, [fact for _, fact in fewer], {}):
            left = fewer
    return [mark for mark, _ in left]
