"""The rows and words of texts and scripts."""

MOST_DIGITS = 4
MOST_LETTERS = 8


def split_rows(text):
    """Return the rows of a text; the empty text has none."""
    if text == "":
        return []
    return text.split("\n")


def read_integer(word):
    """Return the integer that a word stands for, or None."""
    digits = word.removeprefix("-")
    # There are digits outside of ASCII, which do not count.
    if len(digits) > MOST_DIGITS or not digits.isascii() or not digits.isdigit():
        return None
    if digits[0] == "0" and word != "0":
        return None
    return int(word)


def is_name(value):
    """Return whether a value is a string of one to eight letters a to z."""
    if not isinstance(value, str) or len(value) > MOST_LETTERS:
        return False
    return value.isascii() and value.isalpha() and value.islower()
