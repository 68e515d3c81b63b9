"""Lexemes: the words, numbers and signs of which texts consist."""

from bushcoins.errors import BadText
from bushcoins.words import DIGITS, LETTERS, LONGEST

SIGNS = "(){},;"
BLANKS = " \n"


def run_end(text, place, letters):
    """Return the place behind the last one of the letters that follow each other from a place on."""
    while place < len(text) and text[place] in letters:
        place += 1
    return place


def lexeme_at(text, place):
    """Return the sort of the lexeme that begins at a place, and the place behind it; (None, place) if none does."""
    first = text[place]
    if first in SIGNS:
        return "sign", place + 1
    if first in LETTERS:
        end = run_end(text, place, LETTERS + DIGITS)
        return ("word", end) if end - place <= LONGEST else (None, place)
    if first == "0":
        return "number", place + 1
    if first in DIGITS:
        return "number", run_end(text, place, DIGITS)
    return None, place


def scan(text):
    """Return the lexemes ahead of the first character that begins none, and its place, or None if there is none."""
    found = []
    place = 0
    while place < len(text):
        if text[place] in BLANKS:
            place += 1
        else:
            sort, end = lexeme_at(text, place)
            if sort is None:
                return found, place
            found.append((sort, text[place:end], place))
            place = end
    return found, None


def lexemes(text):
    """Return the list of the lexemes of a text as tuples (sort, lexeme, place)."""
    found, wrong = scan(text)
    if wrong is not None:
        raise BadText(wrong)
    return found
