"""How many coins lead from one plain grove to another: bounds always, the number where there are few namings."""

from math import factorial

from bushcoins.coins import coins
from bushcoins.deeds import all_hangs, moved
from bushcoins.errors import TooGreat
from bushcoins.groves import Grove
from bushcoins.plain import named, plain_of, renamed, stock_of
from bushcoins.plainways import check_stocks, like_namings
from bushcoins.stocks import links, words_of

MOST_NAMINGS = 720


def low_bound(book, roots, one, other):
    """Return the low bound of the plain coins."""
    check_stocks(book, one, other)
    more = {link: 0 for link in links(book, roots, one) + links(book, roots, other)}
    for link in links(book, roots, one):
        more[link] += 1
    for link in links(book, roots, other):
        more[link] -= 1
    sums = {colour: 0 for colour in book.colours()}
    for link, many in more.items():
        # A joint's stem has the colour of its place.
        sums[book.stem(link[2])] += max(many, 0)
    found = sum([(many + 1) // 2 for many in sums.values()])
    return 1 if found == 0 and tuple(one) != tuple(other) else found


def high_bound(book, roots, one, other):
    """Return the high bound of the plain coins."""
    f, g = like_namings(book, roots, one, other)
    return coins(f, g)


def rows_of_names(f, other):
    """Return the list of all tuples of the names of f that fit the joints of a plain grove, in the order of a walk."""
    names = {}
    for name in f.walk():
        names.setdefault(f.bag().word(name), []).append(name)
    rows = [()]
    for word in words_of(other):
        rows = [row + (name,) for row in rows for name in names[word] if name not in row]
    return rows


def nearest_namings(book, roots, one, other):
    """Return the pair of two namings that meet and from one of which the plain coins lead to the other."""
    check_stocks(book, one, other)
    many = 1
    for number in stock_of(book, one):
        many = many * factorial(number)
    if many > MOST_NAMINGS:
        raise TooGreat()
    f = named(book, roots, one)
    groves = [Grove(f.bag(), roots, renamed(other, row)) for row in rows_of_names(f, other)]
    return (f, min(groves, key=lambda g: coins(f, g)))


def plain_coins(book, roots, one, other):
    """Return the plain coins."""
    f, g = nearest_namings(book, roots, one, other)
    return coins(f, g)


def next_to(book, roots, grove):
    """Return the ascending list of the plain groves that are next to a plain grove."""
    f = named(book, roots, grove)
    found = {}
    for deed in all_hangs(f):
        other = plain_of(moved(f, deed))
        # Different plain groves with one stock have different words in the order of a walk.
        if other != tuple(grove):
            found[tuple(words_of(other))] = other
    return sorted(list(found.values()))
