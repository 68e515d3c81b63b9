"""What joints look like down to some depth, and plain groves that are alike."""

from bushcoins.books import Book
from bushcoins.counting import count_plain
from bushcoins.errors import UnknownName
from bushcoins.groves import Grove
from bushcoins.pieces import HANG
from bushcoins.plain import plain_of, renamed, stock_of, walk_of
from bushcoins.plainways import naming, plain_way
from bushcoins.stocks import part_at


def look_at(book, bush, depth):
    """Return the look of the first joint of a bush."""
    if depth == 0:
        return book.stem(bush[0])
    return (bush[0], *[look_at(book, part, depth - 1) for part in bush[1:]])


def look(book, grove, path, depth):
    """Return the look of the joint at a path, which may be anything."""
    bush = part_at(grove, path)
    if bush is None:
        raise UnknownName(path)
    return look_at(book, bush, depth)


def all_looks(book, grove, depth):
    """Return the list of the looks of all joints, in the order of a walk."""
    return [look_at(book, bush, depth) for bush in walk_of(grove)]


def distinct(values):
    """Return the list of the different ones of values, in the order in which they first come."""
    # Looks may be nested too deep to be keys.
    found = []
    for value in values:
        if value not in found:
            found.append(value)
    return found


def looks(book, grove, depth):
    """Return the list of the pairs of a look and of how many joints have it."""
    found = all_looks(book, grove, depth)
    return [(each, found.count(each)) for each in distinct(found)]


def unlike_look(book, one, other, depth):
    """Return None if two plain groves are alike, and otherwise what is first unlike."""
    ones = all_looks(book, one, depth)
    others = all_looks(book, other, depth)
    for each in distinct(ones + others):
        if ones.count(each) != others.count(each):
            return ("look", each, ones.count(each), others.count(each))
    for k, (bush, against) in enumerate(zip(one, other)):
        if look_at(book, bush, depth - 1) != look_at(book, against, depth - 1):
            return ("root", k)
    return None


def are_alike(book, one, other, depth):
    """Return whether two plain groves are alike."""
    return unlike_look(book, one, other, depth) is None


class Album:
    """The looks of a plain grove, and of those that are alike to it, taken as shapes and colours."""

    def __init__(self, book, grove, depth):
        self._book = book
        self._depth = depth
        self._looks = distinct(all_looks(book, grove, depth))
        self._flat_looks = distinct(all_looks(book, grove, depth - 1))
        firsts = {}
        for bush in walk_of(grove):
            firsts.setdefault(self._word(bush), bush)
        shapes = []
        for word, bush in firsts.items():
            shapes.append((word, self.colour(bush), tuple([self.colour(part) for part in bush[1:]])))
        self._look_book = Book(shapes)

    def _word(self, bush):
        return f"l{self._looks.index(look_at(self._book, bush, self._depth))}"

    def colour(self, bush):
        """Return the colour that stands for the look of the first joint of a bush, of depth one less."""
        return f"c{self._flat_looks.index(look_at(self._book, bush, self._depth - 1))}"

    def look_book(self):
        """Return the look book."""
        return self._look_book

    def shown(self, grove):
        """Return the plain grove of the look book that a plain grove becomes."""
        return renamed(grove, [self._word(bush) for bush in walk_of(grove)])

    def roots(self, grove):
        """Return the tuple of the roots of the plain grove that a plain grove becomes."""
        return tuple([self.colour(bush) for bush in grove])


def look_book(book, grove, depth):
    """Return the look book, and the roots and the plain grove of it that a plain grove becomes."""
    album = Album(book, grove, depth)
    return (album.look_book(), album.roots(grove), album.shown(grove))


def alike_many(book, grove, depth):
    """Return the number of the plain groves that are alike to one, itself among them."""
    other, roots, bushes = look_book(book, grove, depth)
    return count_plain(other, stock_of(other, bushes), roots)


def alone_depth(book, grove):
    """Return the least depth of which a plain grove is alone."""
    depth = 1
    while alike_many(book, grove, depth) > 1:
        depth += 1
    return depth


def keeps_looks(grove, deed, depth):
    """Return whether a deed that can be done at a Grove keeps looks."""
    book = grove.bag().book()
    walk = walk_of(plain_of(grove))
    seen = {name: look_at(book, bush, depth - 1) for name, bush in zip(grove.walk(), walk)}
    shown = [seen[grove.joint(place)] for place in deed[1:]]
    if deed[0] == HANG:
        return shown[0] == shown[1]
    return shown[:2] == shown[2:]


def alike_way(book, roots, one, other, depth):
    """Return two namings that meet and a script that keeps looks from the one to the other; None if they are unlike."""
    if not are_alike(book, one, other, depth):
        return None
    album = Album(book, one, depth)
    f, g, script = plain_way(album.look_book(), album.roots(one), album.shown(one), album.shown(other))
    start = naming(book, roots, one, f.walk())
    return (start, Grove(start.bag(), roots, g.bushes()), script)
