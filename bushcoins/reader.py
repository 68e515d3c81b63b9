"""Reads the texts that the printer writes."""

from bushcoins.bags import Bag
from bushcoins.books import Book
from bushcoins.errors import BadText
from bushcoins.forms import Reading
from bushcoins.groves import Grove
from bushcoins.lexemes import scan
from bushcoins.plain import check_plain


def lexemes_of(form, text):
    """Return the list of the lexemes of a text of this form, as strings; raise BadText for its first wrong place."""
    found, wrong = scan(text)
    reading = Reading(form)
    for sort, lexeme, place in found:
        if not reading.takes(sort, lexeme):
            raise BadText(place)
    if wrong is not None:
        raise BadText(wrong)
    if not reading.is_complete():
        raise BadText(len(text))
    return [row[1] for row in found]


def rows_of(read):
    """Return the list of the lexemes ahead of each semicolon."""
    rows = []
    row = []
    for lexeme in read:
        if lexeme == ";":
            rows.append(row)
            row = []
        else:
            row.append(lexeme)
    return rows


def head_and_rows(form, text):
    """Return the lexemes ahead of the brace, and the list of the lexemes ahead of each semicolon."""
    read = lexemes_of(form, text)
    start = read.index("{")
    return read[:start], rows_of(read[start + 1:-1])


def list_of(read):
    """Return the tuple of the names that the lexemes of a list tell."""
    return tuple([lexeme for lexeme in read if lexeme not in ("(", ",", ")")])


def bush_of(row):
    """Return the bush that the lexemes of a row tell; a semicolon in it tells None."""
    # The unfinished bushes, each one a part of the one ahead of it; the first list only holds the whole bush.
    unfinished = [[]]
    for lexeme in row:
        if lexeme == "(":
            name = unfinished[-1].pop()[0]
            unfinished.append([name])
        elif lexeme == ")":
            bush = tuple(unfinished.pop())
            unfinished[-1].append(bush)
        elif lexeme == ";":
            unfinished[-1].append(None)
        elif lexeme != ",":
            unfinished[-1].append((lexeme,))
    return unfinished[0][0]


def places_in(read):
    """Return the tuple of the places that the lexemes tell."""
    return tuple([(read[k], int(read[k + 1])) for k in range(0, len(read), 2)])


def deed_of(row):
    """Return the deed that the lexemes of a row tell."""
    return (row[0], *places_in(row[1:]))


def read_book(text):
    """Return the Book that a text tells."""
    _, rows = head_and_rows("BOOK", text)
    return Book([(row[1], row[2], list_of(row[3:])) for row in rows])


def read_bag(book, text):
    """Return the Bag of a Book that a text tells."""
    _, rows = head_and_rows("BAG", text)
    return Bag(book, [(row[1], row[2]) for row in rows])


def read_grove(bag, text):
    """Return the Grove of a Bag that a text tells."""
    head, rows = head_and_rows("GROVE", text)
    return Grove(bag, list_of(head[1:]), [bush_of(row) for row in rows])


def read_plain(book, text):
    """Return the pair (roots, bushes) of the plain grove of a Book that a text tells."""
    head, rows = head_and_rows("PLAIN", text)
    roots = list_of(head[1:])
    bushes = tuple([bush_of(row) for row in rows])
    check_plain(book, roots, bushes)
    return roots, bushes


def read_script(text):
    """Return the list of the deeds that a text tells."""
    _, rows = head_and_rows("SCRIPT", text)
    return [deed_of(row) for row in rows]
