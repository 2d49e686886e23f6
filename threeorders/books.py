"""Books: finds and the words that tell which lots of them lay side by side."""

from threeorders.checks import MOST_FINDS, check_different, check_finds, is_listed
from threeorders.errors import InvalidText, InvalidWord, TooMany, UnknownName
from threeorders.lots import is_lot, is_lot_of
from threeorders.names import is_name
from threeorders.orders import is_order, keeps
from threeorders.texts import lines_of

MOST_WORDS = 40


class Book:
    """Some finds and a list of words about them."""

    def __init__(self, finds, words=()):
        check_finds(finds)
        if not is_listed(words):
            raise InvalidWord(-1)
        if len(words) > MOST_WORDS:
            raise TooMany(MOST_WORDS)
        for at, word in enumerate(words):
            if not _is_word_of(finds, word):
                raise InvalidWord(at)
        check_different([mark for mark, _ in words])
        self._finds = sorted(finds)
        self._words = list(words)

    def finds(self):
        """The ascending list of the finds."""
        return list(self._finds)

    def words(self):
        """The list of the words, in order."""
        return list(self._words)

    def lots(self):
        """The list of the lots of the words, in order."""
        return [lot for _, lot in self._words]

    def word(self, mark):
        """The lot of the word with a mark."""
        if mark not in self:
            raise UnknownName(mark)
        return self.lots()[self._marks().index(mark)]

    def with_word(self, mark, lot):
        """The book with one more word behind the others."""
        return Book(self._finds, self._words + [(mark, lot)])

    def without(self, mark):
        """The book without the word with a mark."""
        if mark not in self:
            raise UnknownName(mark)
        return Book(self._finds, [word for word in self._words if word[0] != mark])

    def fits(self, value):
        """Whether any value is an order that fits."""
        return is_order(self._finds, value) and all([keeps(value, lot) for lot in self.lots()])

    def text(self):
        """The text of the book."""
        lines = [["finds", *self._finds]] + [["word", mark, *lot] for mark, lot in self._words]
        return "".join([" ".join(line) + "\n" for line in lines])

    @staticmethod
    def read(text):
        """The book with a text."""
        rows = [line.split(" ") for line in lines_of(text)]
        if len(rows) == 0:
            raise InvalidText(0, "missing")
        finds = rows[0][1:]
        words = []
        for at, row in enumerate(rows):
            why = _fault_of_finds(row) if at == 0 else _fault_of_word(row, finds, words)
            if why is not None:
                raise InvalidText(at, why)
            if at > 0:
                words.append((row[1], tuple(row[2:])))
        return Book(finds, words)

    def _marks(self):
        """The marks of the words, in order."""
        return [mark for mark, _ in self._words]

    def __add__(self, word):
        return Book(self._finds, self._words + [word])

    def __iter__(self):
        return iter(self._words)

    def __contains__(self, mark):
        return mark in self._marks()

    def __eq__(self, other):
        return isinstance(other, Book) and self._finds == other._finds and self._words == other._words

    def __len__(self):
        return len(self._words)

    def __bool__(self):
        return True

    def __str__(self):
        return str(self.text())

    def __repr__(self):
        return f"Book({len(self._finds)} finds, {len(self._words)} words)"


def book_of(table):
    """The book of a table: a word for each kind."""
    return Book(table.finds(), [(kind, table.lot_of_kind(kind)) for kind in table.kinds()])


def _is_word_of(finds, value):
    """Whether any value is a pair of a mark and a lot of some finds."""
    return isinstance(value, tuple) and len(value) == 2 and is_name(value[0]) and is_lot_of(finds, value[1])


def _fault_of_finds(row):
    """What is wrong with the line of the finds; None if nothing is."""
    if row[0] != "finds" or not is_lot(tuple(row[1:])):
        return "form"
    if len(row) - 1 > MOST_FINDS:
        return "many"
    return None


def _fault_of_word(row, finds, words):
    """What is wrong with a line behind the words of the lines ahead; None if nothing is."""
    if row[0] != "word" or len(row) < 2 or not is_name(row[1]) or not is_lot(tuple(row[2:])):
        return "form"
    if len(words) == MOST_WORDS:
        return "many"
    if row[1] in [mark for mark, _ in words]:
        return "double"
    if not is_lot_of(finds, tuple(row[2:])):
        return "unknown"
    return None
