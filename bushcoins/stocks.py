"""Words, stocks, links and paths of plain groves."""

from bushcoins.plain import stock_of, walk_of
from bushcoins.words import is_index


def words_of(grove):
    """Return the list of the words of the joints, in the order of a walk."""
    return [bush[0] for bush in walk_of(grove)]


def differing(book, one, other):
    """Return the word of the first shape of which two plain groves have different numbers, and these, or None."""
    for word, n, m in zip(book.words(), stock_of(book, one), stock_of(book, other)):
        if n != m:
            return (word, n, m)
    return None


def bushes_by_path(grove):
    """Return the list of the pairs of the path of a joint and the bush that begins with it, in the order of a walk."""
    found = []
    waiting = [((n,), grove[n]) for n in reversed(range(len(grove)))]
    while waiting:
        path, bush = waiting.pop()
        found.append((path, bush))
        for k in reversed(range(len(bush) - 1)):
            waiting.append((path + (k,), bush[k + 1]))
    return found


def links(book, roots, grove):
    """Return the list of the links of a plain grove, each in front of those of the places of its joint."""
    words = {path: bush[0] for path, bush in bushes_by_path(grove)}
    # What a root's path is without its last number is the path of no joint: None owns a root.
    return [(words.get(path[:-1]), path[-1], word) for path, word in words.items()]


def part_at(grove, path):
    """Return the plain bush at a path, or None if path, which may be anything, is that of no joint."""
    if not isinstance(path, tuple) or len(path) == 0:
        return None
    # The roots are gone through as if they were the branches of one joint.
    bush = (None, *grove)
    for number in path:
        if not is_index(number, len(bush) - 1):
            return None
        bush = bush[number + 1]
    return bush


def paths(grove):
    """Return the list of the paths of the joints, in the order of a walk."""
    return [path for path, _ in bushes_by_path(grove)]
