"""States: the finds, kinds and sayings that an office has at one time, and how they are read."""

from threeorders.books import Book, book_of
from threeorders.errors import NoFinds
from threeorders.glue import facts_by, groups, table_by, told_by
from threeorders.sayings import Saying
from threeorders.tables import Table

_FACTS = ("before", "first", "last")


class State:
    """Finds with their kinds, and sayings. A state never changes."""

    def __init__(self, held, sayings):
        self._held = {name: sorted(held[name]) for name in sorted(held)}
        self._sayings = [Saying(saying.digger, saying.mark, saying.claim) for saying in sayings]

    def finds(self):
        """The ascending list of the finds."""
        return list(self._held)

    def held(self):
        """A dict from the finds, ascending, to the ascending lists of the kinds that they hold by themselves."""
        return {name: list(kinds) for name, kinds in self._held.items()}

    def kinds(self):
        """The ascending list of the kinds that are held."""
        return sorted(set([kind for kinds in self._held.values() for kind in kinds]))

    def sayings(self):
        """The list of the sayings, in order, as objects of their own."""
        return [Saying(saying.digger, saying.mark, saying.claim) for saying in self._sayings]

    def said_marks(self):
        """The list of the marks of the sayings, in order."""
        return [saying.mark for saying in self._sayings]

    def text(self):
        """The text of an office in this state."""
        lines = [" ".join(["find", name, *kinds]) for name, kinds in self._held.items()]
        return "".join([line + "\n" for line in lines + [saying.text() for saying in self._sayings]])

    def heads(self):
        """A dict from the finds, ascending, to the heads of their groups."""
        return groups(self.finds(), self._same_pairs())

    def table(self):
        """The read table."""
        self._check_finds()
        return table_by(Table(list(self._held.items())), self._same_pairs())

    def book(self):
        """The read book."""
        table = self.table()
        heads = self.heads()
        lots = [
            (saying.mark, told_by(heads, saying.claim)[1])
            for saying in self._sayings if saying.claim[0] == "together"
        ]
        return Book(table.finds(), book_of(table).words() + lots)

    def facts(self):
        """The read list of marked facts."""
        self._check_finds()
        facts = [(saying.mark, saying.claim) for saying in self._sayings if saying.claim[0] in _FACTS]
        return facts_by(self.finds(), facts, self._same_pairs())

    def _same_pairs(self):
        """The pairs of finds that are one."""
        return [saying.claim[1:] for saying in self._sayings if saying.claim[0] == "same"]

    def _check_finds(self):
        """Raises NoFinds if there are no finds."""
        if len(self._held) == 0:
            raise NoFinds()
