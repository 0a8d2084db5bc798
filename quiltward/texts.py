"""Texts of files, and their lines."""

from quiltward.errors import TextError

MOST_SIGNS = 40
MOST_LINES = 200


def check_text(text):
    """Return None if a string is a text; raise TextError with the least index at which it is not."""
    many, size = 0, 0
    for at, sign in enumerate(text):
        if many == MOST_LINES:
            raise TextError(at)
        if sign == "\n":
            many, size = many + 1, 0
        elif size == MOST_SIGNS or not " " <= sign <= "~":
            raise TextError(at)
        else:
            size += 1
    if size > 0:
        raise TextError(len(text))


def lines_of(text):
    """Return the list of the lines of a text."""
    check_text(text)
    return text.split("\n")[:-1]


def joined(lines):
    """Return the text of a list of lines."""
    return "".join([line + "\n" for line in lines])
