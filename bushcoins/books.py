"""Books: sequences of shapes with different words."""

from bushcoins.errors import BadBook, UnknownName
from bushcoins.words import is_word


def wrong_in_shape(shape, k, earlier):
    """Return the path of the first wrong part of shape k, or None; earlier has the words ahead of it as keys."""
    if not isinstance(shape, tuple) or len(shape) != 3:
        return (k,)
    word, stem, branches = shape
    if not is_word(word) or word in earlier:
        return (k, 0)
    if not is_word(stem):
        return (k, 1)
    if not isinstance(branches, tuple):
        return (k, 2)
    for j, colour in enumerate(branches):
        if not is_word(colour):
            return (k, 2, j)
    return None


class Book:
    """A book never changes."""

    def __init__(self, shapes):
        if not isinstance(shapes, (list, tuple)):
            raise BadBook(())
        found = {}
        for k, shape in enumerate(shapes):
            path = wrong_in_shape(shape, k, found)
            if path is not None:
                raise BadBook(path)
            found[shape[0]] = shape
        self._shapes = found

    def shapes(self):
        """Return the list of the shapes."""
        return list(self._shapes.values())

    def words(self):
        """Return the list of the words of the shapes."""
        return list(self._shapes)

    def colours(self):
        """Return the list of the colours in the order in which they first come."""
        found = {}
        for _, stem, branches in self._shapes.values():
            found[stem] = True
            for colour in branches:
                found[colour] = True
        return list(found)

    def shape(self, word):
        """Return the shape with this word."""
        # Only a string is looked up: other values may be no keys.
        if not isinstance(word, str) or word not in self._shapes:
            raise UnknownName(word)
        return self._shapes[word]

    def stem(self, word):
        """Return the colour of the stem of the shape with this word."""
        return self.shape(word)[1]

    def branches(self, word):
        """Return the tuple of the colours of the branches of the shape with this word."""
        return self.shape(word)[2]

    def __eq__(self, other):
        return isinstance(other, Book) and self.shapes() == other.shapes()
