"""Lots as numbers: a mask has a bit for each find of a lot, the lowest one for the least find."""


def mask_of(finds, lot):
    """The mask of a lot of some finds, which stand ascending."""
    return sum([1 << finds.index(name) for name in lot])


def lot_with(finds, mask):
    """The lot that has a mask."""
    return tuple([name for at, name in enumerate(finds) if mask >> at & 1])


def crosses(one, other):
    """Whether the lots of two masks overlap."""
    both = one & other
    return both != 0 and both != one and both != other
