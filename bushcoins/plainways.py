"""Namings of plain groves, and ways from one plain grove to another."""

from bushcoins.coins import judge_way, way
from bushcoins.errors import UnlikeStocks
from bushcoins.groves import Grove
from bushcoins.plain import named, plain_of, renamed, with_names
from bushcoins.stocks import bushes_by_path, differing


def check_stocks(book, one, other):
    """Raise UnlikeStocks for the first shape of which two plain groves have different numbers."""
    found = differing(book, one, other)
    if found is not None:
        raise UnlikeStocks(found[0])


def naming(book, roots, grove, names):
    """Return the naming with these names in the order of a walk, which is the order of the bag, too."""
    return with_names(book, roots, grove, names)


def like_top(one, other):
    """Return the list of the paths of the like top, in the order of a walk."""
    words = {path: bush[0] for path, bush in bushes_by_path(other)}
    found = {(): True}
    # Below a joint of the like top the other grove has the same paths.
    for path, bush in bushes_by_path(one):
        if path[:-1] in found and words[path] == bush[0]:
            found[path] = True
    return list(found)[1:]


def like_namings(book, roots, one, other):
    """Return the pair of the like namings of two plain groves."""
    check_stocks(book, one, other)
    f = named(book, roots, one)
    top = {path: True for path in like_top(one, other)}
    free = {word: [] for word in book.words()}
    kept = {}
    for name, (path, bush) in zip(f.walk(), bushes_by_path(one)):
        if path in top:
            kept[path] = name
        else:
            free[bush[0]].append(name)
    names = []
    for path, bush in bushes_by_path(other):
        names.append(kept[path] if path in kept else free[bush[0]].pop(0))
    return (f, Grove(f.bag(), roots, renamed(other, names)))


def plain_way(book, roots, one, other):
    """Return two namings that meet and a fewest way from the one to the other."""
    f, g = like_namings(book, roots, one, other)
    return (f, g, way(f, g))


def is_naming(book, roots, grove, value):
    """Return whether value, which may be anything, is a naming of a plain grove."""
    if not isinstance(value, Grove) or value.bag().book() != book or value.roots() != tuple(roots):
        return False
    return plain_of(value) == tuple(grove)


def judge_plain_way(book, roots, one, other, value):
    """Return whether value, which may be anything, is a triple such as plain_way returns."""
    check_stocks(book, one, other)
    if not isinstance(value, tuple) or len(value) != 3:
        return False
    f, g, script = value
    if not is_naming(book, roots, one, f) or not is_naming(book, roots, other, g):
        return False
    return f.bag() == g.bag() and judge_way(f, g, script) is None
