"""The numbers of groves, and the groves with certain numbers."""

from bushcoins.counting import count_named, count_of, entries_of_stock, firsts, taken
from bushcoins.errors import TooGreat
from bushcoins.groves import Grove
from bushcoins.matrices import entries_of_bag
from bushcoins.plain import bushes_from_row, stock_of
from bushcoins.stocks import words_of


def rows_from(entries, roots, number, many):
    """Return the list of so many rows, tuples of labels, from this number on, or fewer if there are no more."""
    found = []
    # The beginnings of rows, the first one on top, each with what is left behind it and how many rows begin so.
    waiting = [((), entries, roots, count_of(entries, roots))]
    while waiting and len(found) < many:
        row, left, places, here = waiting.pop()
        if number >= here:
            number = number - here
        elif not places:
            found.append(row)
        else:
            for k, behind in reversed(firsts(left, places)):
                further, rest = taken(left, places, k)
                waiting.append((row + (left[k][0],), further, rest, behind))
    return found


def row_at(entries, roots, number):
    """Return the row with this number."""
    rows = rows_from(entries, roots, number, 1)
    if not rows:
        raise TooGreat()
    return rows[0]


def row_number(entries, roots, labels):
    """Return the number of a row."""
    found = 0
    for label in labels:
        rows = firsts(entries, roots)
        at = [entries[k][0] for k, _ in rows].index(label)
        found = found + sum([many for _, many in rows[:at]])
        entries, roots = taken(entries, roots, rows[at][0])
    return found


def bushes_of(entries, row):
    """Return the tuple of the bushes of which a row tells the labels."""
    branches = {entry[0]: len(entry[2]) for entry in entries}
    return bushes_from_row([(label, branches[label]) for label in row])


def grove_at(bag, roots, number):
    """Return the grove with this number."""
    entries = entries_of_bag(bag)
    return Grove(bag, roots, bushes_of(entries, row_at(entries, tuple(roots), number)))


def plain_at(book, stock, roots, number):
    """Return the plain grove with this number."""
    entries = entries_of_stock(book, stock)
    return bushes_of(entries, row_at(entries, tuple(roots), number))


def number_of(grove):
    """Return the number of a grove."""
    return row_number(entries_of_bag(grove.bag()), grove.roots(), grove.walk())


def next_grove(grove):
    """Return the grove with the next number, or None if there is none."""
    found = groves_from(grove.bag(), grove.roots(), number=number_of(grove) + 1, many=1)
    return found[0] if found else None


def plain_kind(book, grove):
    """Return the entries and the roots of a plain grove."""
    return entries_of_stock(book, stock_of(book, grove)), tuple([book.stem(bush[0]) for bush in grove])


def plain_number(book, grove):
    """Return the number of a plain grove."""
    entries, roots = plain_kind(book, grove)
    return row_number(entries, roots, words_of(grove))


def next_plain(book, grove):
    """Return the plain grove with the next number, or None if there is none."""
    entries, roots = plain_kind(book, grove)
    found = rows_from(entries, roots, plain_number(book, grove) + 1, 1)
    return bushes_of(entries, found[0]) if found else None


def groves_from(bag, roots, *, number=0, many=10):
    """Return the list of the groves from this number on, as many as many tells, or fewer if there are no more."""
    entries = entries_of_bag(bag)
    rows = rows_from(entries, tuple(roots), number, many)
    return [Grove(bag, roots, bushes_of(entries, row)) for row in rows]


def drawn(bag, roots, number):
    """Return the grove whose number is the remainder of a number divided by that of all groves, or None."""
    whole = count_named(bag, roots)
    return grove_at(bag, roots, number % whole) if whole > 0 else None
