"""Signs of which names and numbers are made."""

LETTERS = "abcdefghijklmnopqrstuvwxyz"
DIGITS = "0123456789"


def is_word(text, signs, most):
    """Return whether a text has 1 to so many signs, all of them among the given ones."""
    return 1 <= len(text) <= most and all(sign in signs for sign in text)


def read_number(text, most):
    """Return the number that decimal digits without leading zeros tell, if it is at most the bound, or None."""
    # The length comes first, since Python refuses to read numbers with thousands of digits.
    if not is_word(text, DIGITS, len(str(most))):
        return None
    if text[0] == "0" and text != "0":
        return None
    number = int(text)
    return number if number <= most else None
