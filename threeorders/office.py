"""The office: it keeps the sayings of many diggers and answers for all orders that fit them."""

from threeorders.answers import answer_to
from threeorders.bars import is_standing
from threeorders.chains import derived
from threeorders.deeds import deeds_of, state_behind
from threeorders.derivations import first_fault, is_statement_of
from threeorders.errors import InvalidStatement, NoFinds, NothingLeft, UnknownFind, UnknownKept
from threeorders.glue import told_by
from threeorders.links import can_hold
from threeorders.names import is_number
from threeorders.states import State
from threeorders.trees import tree_of
from threeorders.webs import web_of


class Office:
    """Finds with their kinds and sayings, with a history, kept derivations and a log."""

    def __init__(self):
        # Behind each step, also behind those that were taken back, there is a state; the first one is ahead of all.
        self._steps = []
        self._states = [State({}, [])]
        self._at = 0
        self._kept = []
        self._log = []
        self._busy = False

    def do(self, *deeds):
        """Does deeds."""
        step = deeds_of(deeds)
        self._busy = True
        try:
            state = state_behind(self._state(), step)
        finally:
            self._busy = False
        if len(step) > 0:
            self._steps = [*self._steps[:self._at], step]
            self._states = [*self._states[:self._at + 1], state]
            self._at += 1

    def undo(self):
        """Takes the last step back."""
        if self._at == 0:
            raise NothingLeft()
        self._at -= 1

    def redo(self):
        """Does the step again that was taken back last."""
        if self._at == len(self._steps):
            raise NothingLeft()
        self._at += 1

    def history(self):
        """The pair of the numbers of steps that can be undone and redone."""
        return self._at, len(self._steps) - self._at

    def journal(self):
        """The list of the steps that can be undone, each a list of its deeds."""
        return [list(step) for step in self._steps[:self._at]]

    def finds(self):
        """The ascending list of the finds."""
        return self._state().finds()

    def kinds_of(self, name):
        """The ascending list of the kinds that a find holds by itself."""
        held = self._state().held()
        if name not in self.finds():
            raise UnknownFind(name)
        return held[name]

    def sayings(self):
        """The list of the sayings, in order."""
        return self._state().sayings()

    def heads(self):
        """A dict from the finds, ascending, to the heads of their groups."""
        return self._state().heads()

    def table(self):
        """The read table."""
        return self._state().table()

    def book(self):
        """The read book."""
        return self._state().book()

    def facts(self):
        """The read list of marked facts."""
        return self._state().facts()

    def web(self):
        """The web of the read case."""
        return web_of(self.book(), self.facts())

    @property
    def stands(self):
        """Whether an order fits the read case; True without finds."""
        if len(self.finds()) == 0:
            return True
        book = self.book()
        return is_standing(book) and can_hold(tree_of(book), [fact for _, fact in self.facts()], {})

    @property
    def busy(self):
        """Whether deeds are being done."""
        return self._busy

    def tried(self, *deeds):
        """The text that the office would have behind some deeds."""
        return state_behind(self._state(), deeds_of(deeds)).text()

    def keep(self, statement):
        """Derives a statement in the read case and keeps the derivation; returns its number."""
        book = self.book()
        if not is_statement_of(self.finds(), statement):
            raise InvalidStatement()
        self._kept.append(derived(book, self.facts(), told_by(self.heads(), statement)))
        return len(self._kept) - 1

    def kept(self, number):
        """The list of the entries of a kept derivation."""
        if not is_number(number, 0, len(self._kept) - 1):
            raise UnknownKept(number)
        return list(self._kept[number])

    def is_good(self, number):
        """Whether all entries of a kept derivation are right in the read case."""
        entries = self.kept(number)
        try:
            return first_fault(self.book(), self.facts(), entries) is None
        except NoFinds:
            return False

    def kept_statements(self):
        """The list of the statements that the kept derivations show."""
        return [entries[-1][0] for entries in self._kept]

    def say(self, line):
        """The answer to a line of words."""
        answer = answer_to(self, line)
        self._log.append((line, answer))
        return answer

    def log(self):
        """The list of the pairs of lines and answers."""
        return list(self._log)

    def text(self):
        """The text of the office."""
        return self._state().text()

    def twin(self):
        """An independent office in the same state."""
        other = Office()
        other._steps = list(self._steps)
        other._states = list(self._states)
        other._at = self._at
        other._kept = list(self._kept)
        other._log = list(self._log)
        return other

    def _state(self):
        """What the office has now."""
        return self._states[self._at]

    def __call__(self, line):
        return self.say(line)

    def __eq__(self, other):
        return isinstance(other, Office) and self.text() == other.text()

    def __len__(self):
        return len(self.sayings())

    def __bool__(self):
        return True

    def __repr__(self):
        return f"Office({len(self.finds())} finds, {len(self.sayings())} sayings)"


def office_in(state):
    """An office in a state, without history."""
    office = Office()
    office._states = [state]
    return office
