"""The closing of lots to blocks, with a note of how each block was found."""

from threeorders.errors import CannotStand
from threeorders.masks import crosses, lot_with, mask_of


class Closing:
    """The blocks of some finds and words, in the order in which they were found; up to a bar, if one is met.

    A lot is kept as its mask: unions, common parts and rests are single steps then. A closing never changes, so that
    operators may make one.
    """

    def __init__(self, finds, words=()):
        self._finds = sorted(finds)
        self._masks, self._grounds, self._elders_of_bar = _closed(
            len(self._finds), [(mark, mask_of(self._finds, lot)) for mark, lot in words])
        self._numbers = {mask: number for number, mask in enumerate(self._masks)}

    def bar(self):
        """The ascending triple of the lots of a bar that was met, or None."""
        if self._elders_of_bar is None:
            return None
        one, other = [self._masks[elder] for elder in self._elders_of_bar[:2]]
        both = one & other
        return tuple(sorted([lot_with(self._finds, mask) for mask in (one ^ both, both, other ^ both)]))

    def check_bar(self):
        """Raises CannotStand if a bar was met."""
        bar = self.bar()
        if bar is not None:
            one, two, three = bar
            raise CannotStand(one, two, three)

    def masks(self):
        """The masks of the blocks, by number."""
        return list(self._masks)

    def lots_from(self, number):
        """The ascending list of the blocks that were found from a number on."""
        return sorted([lot_with(self._finds, mask) for mask in self._masks[number:]])

    def number_of(self, lot):
        """The number of a block, by the order in which the blocks were found."""
        return self._numbers[mask_of(self._finds, lot)]

    def entries_to(self, number):
        """The right entries that show the blocks up to a number."""
        return [self._entry(at) for at in range(number + 1)]

    def entries_of_bar(self):
        """Right entries, the last one of which shows that no order fits, where a bar was met."""
        return self.entries_to(len(self) - 1) + [(("never",), "bar", self._elders_of_bar)]

    def _entry(self, number):
        rule, elders = self._grounds[number]
        return (("lot", lot_with(self._finds, self._masks[number])), rule, elders)

    def __contains__(self, lot):
        return mask_of(self._finds, lot) in self._numbers

    def __len__(self):
        return len(self._masks)


def _closed(many, words):
    """The masks of the blocks, the grounds on which each of them is one, and the elders of a bar, or None.

    Two blocks that overlap belong to a bar exactly if the union of their rests is a block. Of the three blocks whose
    lots make a bar, the last one to be paired meets the two others here, so no bar is missed.
    """
    masks = []
    grounds = []
    numbers = {}
    done = 0
    for given in _given(many, words):
        found = [given]
        while True:
            for mask, rule, elders in found:
                if mask not in numbers:
                    numbers[mask] = len(masks)
                    masks.append(mask)
                    grounds.append((rule, elders))
            if done == len(masks):
                break
            beside = [at for at in range(done) if crosses(masks[done], masks[at])]
            bars = [at for at in beside if masks[done] ^ masks[at] in numbers]
            if len(bars) > 0:
                return masks, grounds, (done, bars[0], numbers[masks[done] ^ masks[bars[0]]])
            found = [told for at in beside for told in _drawn(masks, done, at)]
            done += 1
    return masks, grounds, None


def _given(many, words):
    """What is a block from the start: each find, all finds, and the words in their order."""
    finds = [(1 << at, "single", ()) for at in range(many)]
    return finds + [((1 << many) - 1, "all", ())] + [(mask, "word", (mark,)) for mark, mask in words]


def _drawn(masks, number, at):
    """What follows from two blocks that overlap."""
    one = masks[number]
    other = masks[at]
    both = one & other
    return [
        (one | other, "union", (number, at)), (both, "common", (number, at)),
        (one ^ both, "rest", (number, at)), (other ^ both, "rest", (at, number)),
    ]
