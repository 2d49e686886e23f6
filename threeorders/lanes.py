"""Lanes: orders of the children of a node, one behind another, that links allow.

Children are told by their numbers, and a set of them by a mask, which has the bit `number - 1` for each of them.
"""


class Lane:
    """The orders of a number of children in which each link is kept.

    A *start* is a set of children that may stand ahead of all others. A way of the lane is a path from the empty
    start to that of all children, child by child, and each such path is a way.
    """

    def __init__(self, many, links):
        self._many = many
        numbers = range(1, many + 1)
        self._ahead = [sum([1 << (i - 1) for i in numbers if (i, j) in links]) for j in numbers]
        self._starts = {mask: True for mask in _closed_masks(self._ahead)}

    def starts(self):
        """The ascending list of the starts; so each one stands behind those within it."""
        return list(self._starts)

    def nexts(self, start):
        """The numbers of the children that may stand behind a start."""
        return [number for number in range(1, self._many + 1) if self._may_follow(start, number)]

    def starts_ahead_of(self, number):
        """The starts behind which a child may stand."""
        return [start for start in self._starts if self._may_follow(start, number)]

    def stretches(self, i, j):
        """Pairs of a start and a set of children that may stand between child i, behind the start, and child j.

        Each set that may stand there comes once, with the least start.
        """
        ends = 1 << (i - 1) | 1 << (j - 1)
        found = []
        for between in range(1 << self._many):
            if between & ends != 0:
                continue
            start = self._needed(between | ends) ^ between ^ ends
            behind = start | 1 << (i - 1)
            if self._are_starts((start, behind, behind | between, behind | between | ends)):
                found.append((start, between))
        return found

    def row(self, stations):
        """A way, as a tuple of numbers, that goes over some starts, each of which is within the next one."""
        row = ()
        start = 0
        for station in [*stations, (1 << self._many) - 1]:
            while start != station:
                number = [each for each in self.nexts(start) if station >> (each - 1) & 1][0]
                start = start | 1 << (number - 1)
                row = (*row, number)
        return row

    def _may_follow(self, start, number):
        """Whether a child may stand behind a start."""
        return start >> (number - 1) & 1 == 0 and start | 1 << (number - 1) in self._starts

    def _needed(self, mask):
        """The least start that contains some children."""
        while mask not in self._starts:
            for at, ahead in enumerate(self._ahead):
                if mask >> at & 1:
                    mask = mask | ahead
        return mask

    def _are_starts(self, masks):
        """Whether all of some sets are starts."""
        return all([mask in self._starts for mask in masks])


def lanes_of(shape, many, links):
    """The lanes of a node with a number of children and with links: one, or for a row one for each direction."""
    if shape == "loose":
        return [Lane(many, links)]
    lanes = []
    if all([i < j for i, j in links]):
        lanes.append(Lane(many, [(number, number + 1) for number in range(1, many)]))
    if all([i > j for i, j in links]):
        lanes.append(Lane(many, [(number + 1, number) for number in range(1, many)]))
    return lanes


def _closed_masks(ahead):
    """The sets of children that contain, for each child, all that stand ahead of it, ascending."""
    needs = [0]
    for mask in range(1, 1 << len(ahead)):
        least = mask & -mask
        needs.append(needs[mask ^ least] | ahead[least.bit_length() - 1])
    return [mask for mask, need in enumerate(needs) if need | mask == mask]
