"""Meetings: which kinds meet, that is, are held by one find."""

from threeorders.checks import is_listed
from threeorders.errors import InvalidKind, InvalidPair, TooFew, TooMany, UnknownName
from threeorders.masks import lot_with
from threeorders.names import is_name
from threeorders.tables import MOST_KINDS


class Meetings:
    """Some kinds and the pairs of them that meet."""

    def __init__(self, kinds, pairs=()):
        if not is_listed(kinds) or len(kinds) == 0:
            raise InvalidKind(-1)
        if len(kinds) > MOST_KINDS:
            raise TooMany(MOST_KINDS)
        for at, kind in enumerate(kinds):
            if not is_name(kind) or kind in kinds[:at]:
                raise InvalidKind(at)
        if not is_listed(pairs):
            raise InvalidPair(-1)
        for at, pair in enumerate(pairs):
            if not _is_pair_of(kinds, pair):
                raise InvalidPair(at)
        self._kinds = sorted(kinds)
        self._pairs = sorted(set([(min(pair), max(pair)) for pair in pairs]))

    def kinds(self):
        """The ascending list of the kinds."""
        return list(self._kinds)

    def pairs(self):
        """The ascending list of the pairs, each with the lesser kind first."""
        return list(self._pairs)

    def meet(self, one, other):
        """Whether any values are two different kinds that meet."""
        return (one, other) in self._pairs or (other, one) in self._pairs

    def beside(self, kind):
        """The ascending list of the kinds that meet a kind."""
        if kind not in self._kinds:
            raise UnknownName(kind)
        return [other for other in self._kinds if self.meet(kind, other)]

    def greatest_lots(self):
        """The ascending list of the greatest lots."""
        near = [
            sum([1 << at for at, other in enumerate(self._kinds) if other == kind or self.meet(kind, other)])
            for kind in self._kinds
        ]
        # The kinds that are, or meet, all kinds of a lot are just this lot exactly if it is a greatest one.
        shared = [-1]
        for mask in range(1, 1 << len(near)):
            least = mask & -mask
            shared.append(shared[mask ^ least] & near[least.bit_length() - 1])
        return sorted([lot_with(self._kinds, mask) for mask, both in enumerate(shared) if mask == both])

    def __eq__(self, other):
        return isinstance(other, Meetings) and self._kinds == other._kinds and self._pairs == other._pairs

    def __len__(self):
        return len(self._kinds)

    def __repr__(self):
        return f"Meetings({len(self._kinds)} kinds, {len(self._pairs)} pairs)"


def meetings_of(table):
    """The meetings that a table has."""
    kinds = table.kinds()
    if len(kinds) == 0:
        raise TooFew(1)
    held = [table.kinds_of(name) for name in table.finds()]
    return Meetings(kinds, [
        (one, other) for one in kinds for other in kinds
        if one < other and any([one in holds and other in holds for holds in held])
    ])


def _is_pair_of(kinds, value):
    """Whether any value is a pair of two different kinds."""
    return isinstance(value, tuple) and len(value) == 2 and value[0] in kinds and value[1] in kinds \
        and value[0] != value[1]
