"""Copies of any values."""


def copied(value):
    """Any value, with new lists in the place of its lists, also of those within its tuples."""
    if isinstance(value, list):
        return [copied(item) for item in value]
    if isinstance(value, tuple):
        return tuple([copied(item) for item in value])
    return value
