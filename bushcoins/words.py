"""Words: the names of colours, shapes and joints."""

LETTERS = "abcdefghijklmnopqrstuvwxyz"
DIGITS = "0123456789"
LONGEST = 12


def is_word(value):
    """Return whether value, which may be anything, is a word."""
    if not isinstance(value, str) or len(value) < 1 or len(value) > LONGEST:
        return False
    if value[0] not in LETTERS:
        return False
    return all([letter in LETTERS or letter in DIGITS for letter in value])
