"""Tabled: whether there is a table that has some meetings, and which one."""

from threeorders.errors import NoTable, Same, UnknownName
from threeorders.paths import path_along
from threeorders.tables import Table

_LEAST_RING = 4
_FINDS = "abcdefghij"


def is_ring_without_chords(meetings, value):
    """Whether any value is a ring without chords."""
    if not isinstance(value, tuple) or len(value) < _LEAST_RING:
        return False
    if not all([kind in meetings.kinds() and kind not in value[:at] for at, kind in enumerate(value)]):
        return False
    last = len(value) - 1
    return all([
        meetings.meet(value[i], value[j]) == (j - i in (1, last)) for i in range(last) for j in range(i + 1, last + 1)
    ])


def ring_without_chords(meetings):
    """A ring without chords, or None."""
    for kind in meetings.kinds():
        beside = meetings.beside(kind)
        for one in beside:
            for other in beside:
                # A shortest way between two kinds that do not meet, past the kind that meets both, has no chords.
                way = None if meetings.meet(one, other) else _way(meetings, one, other, kind)
                if one != other and way is not None:
                    return (kind, *way)
    return None


def way_past(meetings, one, other, past):
    """A way from one kind to another one past a third one, or None."""
    for kind in (one, other, past):
        if kind not in meetings.kinds():
            raise UnknownName(kind)
    for at, kind in enumerate((one, other, past)):
        if kind in (one, other, past)[:at]:
            raise Same(kind)
    if meetings.meet(one, past) or meetings.meet(other, past):
        return None
    return _way(meetings, one, other, past)


def three_apart(meetings):
    """The least ascending triple of three kinds apart, or None."""
    kinds = meetings.kinds()
    triples = [(p, q, r) for p in kinds for q in kinds for r in kinds if p < q < r]
    for p, q, r in triples:
        ways = [way_past(meetings, p, q, r), way_past(meetings, p, r, q), way_past(meetings, q, r, p)]
        if None not in ways:
            return (p, q, r)
    return None


def table_of(meetings):
    """The told table."""
    ring = ring_without_chords(meetings)
    if ring is not None:
        raise NoTable("ring", ring)
    triple = three_apart(meetings)
    if triple is not None:
        raise NoTable("apart", triple)
    return Table(list(zip(_FINDS, meetings.greatest_lots())))


def _way(meetings, one, other, past):
    """A shortest way from one kind to another one whose inner kinds are not a third one and do not meet it, or None."""
    free = [kind for kind in meetings.kinds() if kind in (one, other) or kind != past and not meetings.meet(kind, past)]
    return path_along([(i, j) for i in free for j in free if meetings.meet(i, j)], one, other)
