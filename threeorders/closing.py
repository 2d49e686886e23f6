"""The closing of lots to blocks, with a note of how each block was found."""


class Closing:
    """The blocks of some finds and words, in the order in which they were found.

    A lot is kept as a number with a bit for each of its finds: unions, common parts and rests are single steps then.
    """

    def __init__(self, finds):
        self._finds = sorted(finds)
        self._masks = []
        self._grounds = []
        self._numbers = {}
        self._many_paired = 0
        self._bar = None
        for at in range(len(self._finds)):
            self._take(1 << at, "single", ())
        self._take((1 << len(self._finds)) - 1, "all", ())

    def put(self, mark, lot):
        """Takes a word and closes the blocks, until they are closed or a bar is met."""
        self._take(self._mask_of(lot), "word", (mark,))
        while self._many_paired < len(self._masks) and self._bar is None:
            self._pair(self._many_paired)
            self._many_paired += 1

    def bar(self):
        """The ascending triple of the lots of a bar that was met, or None."""
        if self._bar is None:
            return None
        one, other = self._bar
        both = one & other
        return tuple(sorted([self._lot_of(mask) for mask in (one ^ both, both, other ^ both)]))

    def lots_from(self, number):
        """The ascending list of the blocks that were found from a number on."""
        return sorted([self._lot_of(mask) for mask in self._masks[number:]])

    def number_of(self, lot):
        """The number of a block, by the order in which the blocks were found."""
        return self._numbers[self._mask_of(lot)]

    def entries_to(self, number):
        """The right entries that show the blocks up to a number."""
        return [self._entry(at) for at in range(number + 1)]

    def twin(self):
        """An independent closing in the same state."""
        other = Closing(self._finds)
        other._masks = list(self._masks)
        other._grounds = list(self._grounds)
        other._numbers = dict(self._numbers)
        other._many_paired = self._many_paired
        other._bar = self._bar
        return other

    def _entry(self, number):
        rule, elders = self._grounds[number]
        return (("lot", self._lot_of(self._masks[number])), rule, elders)

    def _mask_of(self, lot):
        return sum([1 << self._finds.index(name) for name in lot])

    def _lot_of(self, mask):
        return tuple([name for at, name in enumerate(self._finds) if mask >> at & 1])

    def _take(self, mask, rule, elders):
        """Notes a block, unless it is known, and on what grounds it is one."""
        if mask not in self._numbers:
            self._numbers[mask] = len(self._masks)
            self._masks.append(mask)
            self._grounds.append((rule, elders))

    def _pair(self, number):
        """Takes what follows from a block and each of those that were found ahead of it.

        Two blocks that overlap belong to a bar exactly if the union of their rests is a block. Of the three blocks
        whose lots make a bar, the last one to be paired meets the two others here, so no bar is missed.
        """
        one = self._masks[number]
        for at in range(number):
            other = self._masks[at]
            both = one & other
            if both in (0, one, other):
                continue
            if one ^ other in self._numbers:
                self._bar = (one, other)
                return
            self._take(one | other, "union", (number, at))
            self._take(both, "common", (number, at))
            self._take(one ^ both, "rest", (number, at))
            self._take(other ^ both, "rest", (at, number))

    def __contains__(self, lot):
        return self._mask_of(lot) in self._numbers

    def __len__(self):
        return len(self._masks)
