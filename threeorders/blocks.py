"""Blocks: the lots that all orders keep that fit a book which stands."""

from threeorders.books import MOST_WORDS
from threeorders.checks import check_finds
from threeorders.closing import Closing
from threeorders.derivations import shortened
from threeorders.errors import DuplicateName, InvalidLot, InvalidName, NotABlock, TooMany
from threeorders.lots import is_lot_of
from threeorders.names import is_name


class Blocks:
    """A gathering of blocks: it begins with finds and takes words one by one."""

    def __init__(self, finds):
        check_finds(finds)
        self._finds = sorted(finds)
        self._words = []
        self._closing = Closing(finds)

    def put(self, mark, lot):
        """Takes a word and tells the blocks that are new."""
        self._check_word(mark, lot)
        closing = Closing(self._finds, self._words + [(mark, lot)])
        closing.check_bar()
        fresh = closing.lots_from(len(self._closing))
        self._closing = closing
        self._words.append((mark, lot))
        return fresh

    def finds(self):
        """The ascending list of the finds."""
        return list(self._finds)

    def blocks(self):
        """The ascending list of the blocks."""
        return self._closing.lots_from(0)

    def words(self):
        """The list of the words, in order."""
        return list(self._words)

    def derivation(self, lot):
        """A shortened derivation that shows that a block is kept."""
        if lot not in self:
            raise NotABlock(lot)
        return shortened(self._closing.entries_to(self._closing.number_of(lot)))

    def entries(self):
        """Right entries whose statements are all blocks, each once."""
        yield from self._closing.entries_to(len(self._closing) - 1)

    def twin(self):
        """An independent gathering in the same state."""
        other = Blocks(self._finds)
        other._words = list(self._words)
        other._closing = self._closing
        return other

    def _check_word(self, mark, lot):
        """Raises an error unless a word may be taken, whether or not the book stands with it."""
        if not is_name(mark):
            raise InvalidName(mark)
        if mark in [earlier for earlier, _ in self._words]:
            raise DuplicateName(mark)
        if not is_lot_of(self._finds, lot):
            raise InvalidLot(0)
        if len(self._words) == MOST_WORDS:
            raise TooMany(MOST_WORDS)

    def __contains__(self, lot):
        return is_lot_of(self._finds, lot) and lot in self._closing

    def __len__(self):
        return len(self._closing)

    def __repr__(self):
        return f"Blocks({len(self)} blocks)"


def blocks_of(book):
    """The ascending list of the blocks of a book that stands."""
    gathering = Blocks(book.finds())
    for mark, lot in book:
        gathering.put(mark, lot)
    return gathering.blocks()
