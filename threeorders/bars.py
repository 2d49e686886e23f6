"""Bars: three lots, each two of which would have to lie together; and what to do with books that have one."""

from threeorders.closing import Closing
from threeorders.derivations import shortened
from threeorders.errors import Standing


def is_standing(book):
    """Whether a book stands."""
    return _stands(book.finds(), book.words())


def bar_of(book):
    """The ascending triple of the lots of a bar, or None."""
    return Closing(book.finds(), book.words()).bar()


def bar_entries(book):
    """A shortened derivation, without facts, that shows that no order fits."""
    if is_standing(book):
        raise Standing()
    return shortened(Closing(book.finds(), book.words()).entries_of_bar())


def least_part(book):
    """The marks of the least part that does not stand, in order."""
    if is_standing(book):
        raise Standing()
    words = book.words()
    for mark, _ in book.words():
        fewer = _without(words, mark)
        if not _stands(book.finds(), fewer):
            words = fewer
    return [mark for mark, _ in words]


def kept_words(book):
    """The marks of the words with which the kept ones ahead of them stand, and those of the barred words."""
    kept = []
    barred = []
    for mark, lot in book.words():
        if _stands(book.finds(), kept + [(mark, lot)]):
            kept.append((mark, lot))
        else:
            barred.append(mark)
    return [mark for mark, _ in kept], barred


def needless(book):
    """The marks of the words without which the book has the same blocks, in order."""
    Closing(book.finds(), book.words()).check_bar()
    return [mark for mark, lot in book.words() if lot in Closing(book.finds(), _without(book.words(), mark))]


def core(book):
    """The marks of the words that are left when the needless ones are left out one by one, in order."""
    Closing(book.finds(), book.words()).check_bar()
    words = book.words()
    for mark, lot in book.words():
        fewer = _without(words, mark)
        if lot in Closing(book.finds(), fewer):
            words = fewer
    return [mark for mark, _ in words]


def _stands(finds, words):
    """Whether some finds and words are a book that stands."""
    return Closing(finds, words).bar() is None


def _without(words, mark):
    """The words other than the one with a mark."""
    return [word for word in words if word[0] != mark]
