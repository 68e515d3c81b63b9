"""Roots as owners, and what they can have in the dealings of a stock."""

from bushcoins.counting import count_plain, fraction
from bushcoins.errors import TooGreat, UnknownName
from bushcoins.numbering import plain_at
from bushcoins.plain import stock_of
from bushcoins.words import is_index, is_number

MOST_PARTS = 2000


def check_owner(many, owner):
    """Raise UnknownName if owner, which may be anything, is not the number of one of so many roots."""
    if not is_index(owner, many):
        raise UnknownName(owner)


def holding(book, grove, owner):
    """Return the holding of an owner, who may be anything, in a plain grove."""
    check_owner(len(grove), owner)
    return stock_of(book, [grove[owner]])


def is_part(stock, part):
    """Return whether part, which may be anything, is a tuple of numbers that can be taken from a stock."""
    if not isinstance(part, tuple) or len(part) != len(stock):
        return False
    return all([is_number(number) and 0 <= number <= many for number, many in zip(part, stock)])


def rest_of(stock, part):
    """Return the tuple of the numbers of a stock that are left if a part is taken from it."""
    return tuple([many - number for many, number in zip(stock, part)])


def other_roots(roots, owner):
    """Return the tuple of the roots of the other owners."""
    return (*roots[:owner], *roots[owner + 1:])


def dealings(book, roots, stock, owner, part):
    """Return the number of dealings in which an owner has a part; owner and part may be anything."""
    check_owner(len(roots), owner)
    if not is_part(stock, part):
        return 0
    number = count_plain(book, part, roots[owner:owner + 1])
    # Most parts make no bush, and then the rest need not be looked at.
    if number == 0:
        return 0
    return number * count_plain(book, rest_of(stock, part), other_roots(roots, owner))


def can_have(book, roots, stock, owner, part):
    """Return whether an owner can have a part; owner and part may be anything."""
    return dealings(book, roots, stock, owner, part) > 0


def dealt(book, roots, stock, owner, part):
    """Return a dealing in which an owner has a part, or None; owner and part may be anything."""
    if not can_have(book, roots, stock, owner, part):
        return None
    own = plain_at(book, part, roots[owner:owner + 1], 0)
    others = plain_at(book, rest_of(stock, part), other_roots(roots, owner), 0)
    return others[:owner] + own + others[owner:]


def parts_of_stock(stock):
    """Return the ascending list of all tuples of numbers that can be taken from a stock."""
    many = 1
    for number in stock:
        many = many * (number + 1)
    if many > MOST_PARTS:
        raise TooGreat()
    found = [()]
    for number in stock:
        found = [part + (k,) for part in found for k in range(number + 1)]
    return found


def holdings(book, roots, stock, owner):
    """Return the ascending list of the pairs of a holding that an owner can have and of how many dealings have it."""
    check_owner(len(roots), owner)
    rows = [(part, dealings(book, roots, stock, owner, part)) for part in parts_of_stock(stock)]
    return [(part, number) for part, number in rows if number > 0]


def mean_holding(book, roots, stock, owner, word):
    """Return the share of an owner in the shape with a word, or None if there is no dealing; both may be anything."""
    check_owner(len(roots), owner)
    book.shape(word)
    k = book.words().index(word)
    rows = holdings(book, roots, stock, owner)
    if not rows:
        return None
    return fraction(sum([part[k] * number for part, number in rows]), sum([number for _, number in rows]))
