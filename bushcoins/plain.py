"""Plain groves: bushes that tell the words of shapes in the place of names."""

from bushcoins.bags import Bag
from bushcoins.errors import BadGrove
from bushcoins.groves import Grove, wrong_bush, wrong_root


def check_plain(book, roots, bushes):
    """Raise BadGrove for the first wrong part, if bushes are no plain grove of roots."""
    path = wrong_root(roots)
    if path is None:
        kinds = {word: (stem, branches) for word, stem, branches in book.shapes()}
        path = wrong_bush(roots, bushes, kinds, False)
    if path is not None:
        raise BadGrove(path)


def walk_of(bushes):
    """Return the list of the bushes, and of all bushes in them, in the order of a walk."""
    found = []
    waiting = list(reversed(bushes))
    while waiting:
        bush = waiting.pop()
        found.append(bush)
        for part in reversed(bush[1:]):
            waiting.append(part)
    return found


def bushes_from_row(row):
    """Return the tuple of bushes that a row tells: pairs of a name and of how many bushes follow it, as a walk goes."""
    # From the end of the walk on, the bushes of a bush are made ahead of it, its first one last.
    made = []
    for name, many in reversed(row):
        parts = [made.pop() for _ in range(many)]
        made.append((name, *parts))
    return tuple(made[::-1])


def renamed(bushes, names):
    """Return the tuple of the bushes with other first members: names, in the order of a walk."""
    return bushes_from_row([(name, len(bush) - 1) for name, bush in zip(names, walk_of(bushes))])


def plain_of(grove):
    """Return the tuple of the plain bushes of a Grove."""
    bag = grove.bag()
    return renamed(grove.bushes(), [bag.word(name) for name in grove.walk()])


def stock_of(book, bushes):
    """Return the tuple of the numbers of joints of a plain grove, one for each shape of the book."""
    found = {word: 0 for word in book.words()}
    for bush in walk_of(bushes):
        found[bush[0]] += 1
    return tuple(found.values())


def with_names(book, roots, bushes, names):
    """Return the Grove that becomes this plain grove, with names in the order of a walk, as in its bag."""
    joints = [(name, bush[0]) for name, bush in zip(names, walk_of(bushes))]
    return Grove(Bag(book, joints), roots, renamed(bushes, names))


def named(book, roots, bushes):
    """Return the Grove that becomes this plain grove, with the names j1, j2 and so on in the order of a walk."""
    many = len(walk_of(bushes))
    return with_names(book, roots, bushes, [f"j{k + 1}" for k in range(many)])
