"""Groves: bushes at roots, in which each joint of a bag stands exactly once."""

from bushcoins.bags import ROOT, is_among, places_of
from bushcoins.errors import BadGrove, UnknownName
from bushcoins.words import is_word


def wrong_root(roots):
    """Return the path of the first wrong part of roots, or None."""
    if not isinstance(roots, (list, tuple)):
        return (0,)
    for k, root in enumerate(roots):
        if not is_word(root):
            return (0, k)
    return None


def wrong_name(name, colour, kinds, seen):
    """Return whether no joint that may stand at a place of this colour is told by name."""
    if not isinstance(name, str) or name not in kinds or name in seen:
        return True
    return kinds[name][0] != colour


def wrong_bush(roots, bushes, kinds, once):
    """Return the path of the first wrong part of the bushes of right roots, or None.

    kinds is a dict from each name or word to its stem and branches; once tells whether each of them must stand once.
    """
    if not isinstance(bushes, (list, tuple)) or len(bushes) != len(roots):
        return (1,)
    seen = {}
    # Bushes wait on a pile, the next one of the walk on top, so that their depth does not matter.
    waiting = [(bushes[n], (1, n), roots[n]) for n in reversed(range(len(roots)))]
    while waiting:
        bush, path, colour = waiting.pop()
        if not isinstance(bush, tuple) or len(bush) == 0:
            return path
        if wrong_name(bush[0], colour, kinds, seen):
            return path + (0,)
        branches = kinds[bush[0]][1]
        if len(bush) != len(branches) + 1:
            return path
        if once:
            seen[bush[0]] = True
        for j in reversed(range(len(branches))):
            waiting.append((bush[j + 1], path + (j + 1,), branches[j]))
    if once and len(seen) < len(kinds):
        return ()
    return None


def wrong_grove(bag, roots, bushes):
    """Return the path of the first wrong part of a grove of a bag, or None; roots and bushes may be anything."""
    path = wrong_root(roots)
    if path is not None:
        return path
    kinds = {name: (bag.stem(name), bag.branches(name)) for name in bag.names()}
    return wrong_bush(roots, bushes, kinds, True)


def standing_in(bushes):
    """Return the dict from each place to the name of the joint that stands there."""
    found = {}
    waiting = [((ROOT, n), bush) for n, bush in enumerate(bushes)]
    while waiting:
        place, bush = waiting.pop()
        found[place] = bush[0]
        for j in range(len(bush) - 1):
            waiting.append(((bush[0], j), bush[j + 1]))
    return found


def walk_from(bag, table, names):
    """Return the names of the joints of the bushes that begin with these joints, in the order of a walk.

    table is a dict from each place to the name of the joint that stands there, or None.
    """
    found = []
    waiting = list(reversed(names))
    while waiting:
        name = waiting.pop()
        found.append(name)
        for n in reversed(range(len(bag.branches(name)))):
            if table[(name, n)] is not None:
                waiting.append(table[(name, n)])
    return found


class Grove:
    """A grove of a Bag and roots; it never changes."""

    def __init__(self, bag, roots, bushes):
        path = wrong_grove(bag, roots, bushes)
        if path is not None:
            raise BadGrove(path)
        self._bag = bag
        self._roots = tuple(roots)
        self._bushes = tuple(bushes)
        standing = standing_in(bushes)
        self._table = {place: standing[place] for place in places_of(bag, roots)}
        self._places = {name: place for place, name in self._table.items()}

    def bag(self):
        """Return the bag."""
        return self._bag

    def roots(self):
        """Return the tuple of the roots."""
        return self._roots

    def bushes(self):
        """Return the list of the bushes."""
        return list(self._bushes)

    def table(self):
        """Return the list of the pairs of a place and the name of its joint, in the order of places."""
        return list(self._table.items())

    def joint(self, place):
        """Return the name of the joint that stands at a place."""
        if not is_among(self._table, place):
            raise UnknownName(place)
        return self._table[place]

    def names(self, place):
        """Return the list of the names of the joints that hang at a place, in the order of a walk."""
        return walk_from(self._bag, self._table, [self.joint(place)])

    def above(self, place):
        """Return the list of the places above a place, from the root's place downwards."""
        if not is_among(self._table, place):
            raise UnknownName(place)
        found = []
        while place[0] != ROOT:
            place = self._places[place[0]]
            found.append(place)
        return found[::-1]

    def is_above(self, one, other):
        """Return whether one place is above the other."""
        if not is_among(self._table, one):
            raise UnknownName(one)
        return one in self.above(other)

    def is_apart(self, one, other):
        """Return whether two places are different and neither is above the other."""
        above_one = self.above(one)
        above_other = self.above(other)
        return one != other and one not in above_other and other not in above_one

    def place(self, name):
        """Return the place at which the joint with this name stands."""
        # Only a string is looked up: other values may be no keys.
        if not isinstance(name, str) or name not in self._places:
            raise UnknownName(name)
        return self._places[name]

    def walk(self):
        """Return the list of all names in the order of a walk."""
        tops = [self._table[(ROOT, n)] for n in range(len(self._roots))]
        return walk_from(self._bag, self._table, tops)

    def __eq__(self, other):
        if not isinstance(other, Grove):
            return False
        return self._bag == other._bag and self._roots == other._roots and self._bushes == other._bushes


def bushes_from(bag, table, tops):
    """Return the list of the bushes that begin with the joints of tops, which come to no ring.

    table is a dict from each place to the name of its joint, or None; there is None at such a place in a bush.
    """
    made = {None: None}
    # From the end of the walk on, what hangs at a joint is made ahead of the joint.
    for name in reversed(walk_from(bag, table, tops)):
        parts = [made[table[(name, n)]] for n in range(len(bag.branches(name)))]
        made[name] = (name, *parts)
    return [made[name] for name in tops]


def grove_from(bag, roots, table):
    """Return the Grove with the joints of table, a dict from each place to a name, at their places; it has no ring."""
    tops = [table[(ROOT, n)] for n in range(len(roots))]
    return Grove(bag, roots, bushes_from(bag, table, tops))
