"""Names and numbers."""

_LETTERS = "abcdefghijklmnopqrstuvwxyz"
_MOST_LETTERS = 6
_DIGITS = "0123456789"


def is_name(value):
    """Whether any value is a name."""
    return isinstance(value, str) and 1 <= len(value) <= _MOST_LETTERS and all([sign in _LETTERS for sign in value])


def are_names(values):
    """Whether all items of a list or tuple are names."""
    return all([is_name(value) for value in values])


def is_number(value, least, most):
    """Whether any value is a number from least to most; True and False are none."""
    return isinstance(value, int) and not isinstance(value, bool) and least <= value <= most


def is_numeral(word, most):
    """Whether a string is a number with at most so many digits, without leading zeros and signs."""
    if not 1 <= len(word) <= most or not all([sign in _DIGITS for sign in word]):
        return False
    return word == "0" or word[0] != "0"
