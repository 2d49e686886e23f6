"""Tolls: the costs of the ways of a lane, where each child has a time and a weight."""

from threeorders.choices import put_choice


class Tolls:
    """The cheapest ways of a lane from the empty start to each start, and from there to all children."""

    def __init__(self, lane, prices):
        self._lane = lane
        self._prices = prices
        self._ends = {start: _sum_of(prices, start) for start in lane.starts()}
        self._ways_to = self._found_to()
        self._ways_from = self._found_from()

    def cheapest(self):
        """The cost of a cheapest way and such a way."""
        return self._ways_from[0]

    def cheapest_by_start(self, number):
        """For each start ahead of a child: the start, the cost of a cheapest way by it and this child, and the way."""
        found = []
        for start in self._lane.starts_ahead_of(number):
            behind, toll = self._step(start, number)
            ahead, row = self._ways_to[start]
            left, others = self._ways_from[behind]
            found.append((start, ahead + toll + left, (*row, number, *others)))
        return found

    def _step(self, start, number):
        """The start that has one more child than another one, and what this child costs there."""
        behind = start | 1 << (number - 1)
        return behind, self._prices[number - 1][1] * self._ends[behind]

    def _found_to(self):
        """A dict from the starts to the costs and rows of cheapest ways to them."""
        found = {0: (0, ())}
        for start in self._lane.starts():
            for number in self._lane.nexts(start):
                worth, row = found[start]
                behind, toll = self._step(start, number)
                put_choice(found, behind, worth + toll, (*row, number))
        return found

    def _found_from(self):
        """A dict from the starts to the costs and rows of cheapest ways from them to all children."""
        found = {(1 << len(self._prices)) - 1: (0, ())}
        for start in reversed(self._lane.starts()):
            for number in self._lane.nexts(start):
                behind, toll = self._step(start, number)
                worth, row = found[behind]
                put_choice(found, start, worth + toll, (number, *row))
        return found


def _sum_of(prices, start):
    """The sum of the times of the children in a start."""
    return sum([time for at, (time, _) in enumerate(prices) if start >> at & 1])
