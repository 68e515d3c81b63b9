"""Bags of joints, and the places of a bag and roots."""

from bushcoins.errors import BadBag, UnknownName
from bushcoins.words import is_number, is_word

ROOT = "root"


def wrong_in_joint(joint, k, words, earlier):
    """Return the path of the first wrong part of joint k, or None; words and earlier have words and names as keys."""
    if not isinstance(joint, tuple) or len(joint) != 2:
        return (k,)
    name, word = joint
    if not is_word(name) or name == ROOT or name in earlier:
        return (k, 0)
    if not is_word(word) or word not in words:
        return (k, 1)
    return None


class Bag:
    """A bag of joints of a Book; it never changes."""

    def __init__(self, book, joints):
        if not isinstance(joints, (list, tuple)):
            raise BadBag(())
        words = {word: True for word in book.words()}
        found = {}
        for k, joint in enumerate(joints):
            path = wrong_in_joint(joint, k, words, found)
            if path is not None:
                raise BadBag(path)
            found[joint[0]] = joint[1]
        self._book = book
        self._words = found

    def book(self):
        """Return the book."""
        return self._book

    def joints(self):
        """Return the list of the joints."""
        return list(self._words.items())

    def names(self):
        """Return the list of the names of the joints."""
        return list(self._words)

    def word(self, name):
        """Return the word of the shape of the joint with this name."""
        # Only a string is looked up: other values may be no keys.
        if not isinstance(name, str) or name not in self._words:
            raise UnknownName(name)
        return self._words[name]

    def stem(self, name):
        """Return the colour of the stem of the joint with this name."""
        return self._book.stem(self.word(name))

    def branches(self, name):
        """Return the tuple of the colours of the branches of the joint with this name."""
        return self._book.branches(self.word(name))

    def stock(self):
        """Return the tuple of the numbers of joints, one for each shape of the book."""
        found = {word: 0 for word in self._book.words()}
        for word in self._words.values():
            found[word] += 1
        return tuple(found.values())

    def __eq__(self, other):
        return isinstance(other, Bag) and self._book == other._book and self.joints() == other.joints()


def places_of(bag, roots):
    """Return the list of the places of a bag and roots, in order."""
    return list(colours_at(bag, roots))


def colours_at(bag, roots):
    """Return the dict of the colours of all places, with the places as keys in their order."""
    found = {(ROOT, n): colour for n, colour in enumerate(roots)}
    for name in bag.names():
        for n, colour in enumerate(bag.branches(name)):
            found[(name, n)] = colour
    return found


def colour_of(bag, roots, place):
    """Return the colour of a place, which may be anything."""
    colours = colours_at(bag, roots)
    if not is_among(colours, place):
        raise UnknownName(place)
    return colours[place]


def is_among(places, value):
    """Return whether value, which may be anything, is one of the places that are the keys of a dict."""
    # True is 1 as a key, and a list is no key: what is looked up is a pair of a string and a number.
    if not isinstance(value, tuple) or len(value) != 2 or not isinstance(value[0], str):
        return False
    return is_number(value[1]) and value in places
