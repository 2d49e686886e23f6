"""Ways: how the children of one node may stand one behind another.

Children are told by their numbers. A way is begun by a tuple of numbers, the children that stand first.
"""

from math import perm


class RowWays:
    """The ways of a row: one of its directions or both."""

    def __init__(self, many, links):
        numbers = tuple(range(1, many + 1))
        self._rows = []
        if all([i < j for i, j in links]):
            self._rows.append(numbers)
        if all([i > j for i, j in links]):
            self._rows.append(numbers[::-1])

    def left(self, begun):
        """The number of the ways that begin so."""
        return len([row for row in self._rows if row[:len(begun)] == begun])


class LooseWays:
    """The ways of a loose node: the orders of its children that its links allow."""

    def __init__(self, many, links):
        self._many = many
        self._linked = sorted(set([number for link in links for number in link]))
        self._ahead = {number: [i for i, j in links if j == number] for number in range(1, many + 1)}
        self._counts = _counts_by_mask(self._linked, links)

    def left(self, begun):
        """The number of the ways that begin so; all but the last one of the numbers are known to be allowed."""
        if len(begun) > 0 and not all([number in begun for number in self._ahead[begun[-1]]]):
            return 0
        linked = [at for at, number in enumerate(self._linked) if number not in begun]
        many = self._many - len(begun)
        # The children without links may stand in any places among the others.
        return self._counts[sum([1 << at for at in linked])] * perm(many, many - len(linked))


def ways_of(shape, many, links):
    """The ways of a node with a number of children and with links."""
    return RowWays(many, links) if shape == "row" else LooseWays(many, links)


def _counts_by_mask(linked, links):
    """For each set of the linked children, told by a mask, how many orders of these the links allow."""
    ahead = [sum([1 << linked.index(i) for i, j in links if j == number]) for number in linked]
    counts = [1]
    for mask in range(1, 1 << len(linked)):
        firsts = [1 << at for at in range(len(linked)) if mask >> at & 1 and mask & ahead[at] == 0]
        counts.append(sum([counts[mask ^ first] for first in firsts]))
    return counts
