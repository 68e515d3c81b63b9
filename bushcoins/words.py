"""Words, the names of colours, shapes and joints; and what numbers are."""

LETTERS = "abcdefghijklmnopqrstuvwxyz"
DIGITS = "0123456789"
LONGEST = 12


def is_word(value):
    """Return whether value, which may be anything, is a word."""
    if not isinstance(value, str) or len(value) < 1 or len(value) > LONGEST:
        return False
    if value[0] not in LETTERS:
        return False
    return all([letter in LETTERS or letter in DIGITS for letter in value])


def is_number(value):
    """Return whether value, which may be anything, is an integer; True and False are none."""
    return isinstance(value, int) and not isinstance(value, bool)


def is_index(value, many):
    """Return whether value, which may be anything, is the number of one of so many things that are counted from 0."""
    return is_number(value) and 0 <= value < many
