"""The lines of texts."""

from threeorders.errors import InvalidText


def lines_of(text):
    """The lines of a text, without their line feeds.

    A last line that lacks its line feed is given as an empty one, because no text may have either of them.
    """
    if not isinstance(text, str):
        raise InvalidText(0, "form")
    lines = text.split("\n")
    if lines[-1] == "":
        return lines[:-1]
    return lines[:-1] + [""]
