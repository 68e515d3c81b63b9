"""Assemblies: joints put at places, which may make rings."""

from bushcoins.bags import ROOT, colours_at, is_among
from bushcoins.errors import BadAssembly, UnknownName
from bushcoins.groves import grove_from, wrong_name, wrong_root


def wrong_row(bag, roots, table):
    """Return the path of the first wrong part of the table of right roots, or None."""
    if not isinstance(table, (list, tuple)):
        return (1,)
    colours = colours_at(bag, roots)
    kinds = {name: (bag.stem(name), bag.branches(name)) for name in bag.names()}
    filled = {}
    placed = {}
    for k, row in enumerate(table):
        if not isinstance(row, tuple) or len(row) != 2:
            return (1, k)
        place, name = row
        if not is_among(colours, place) or place in filled:
            return (1, k, 0)
        if wrong_name(name, colours[place], kinds, placed):
            return (1, k, 1)
        filled[place] = True
        placed[name] = True
    if len(filled) < len(colours) or len(placed) < len(kinds):
        return ()
    return None


class Assembly:
    """An assembly of a Bag and roots; it never changes."""

    def __init__(self, bag, roots, table):
        path = wrong_root(roots)
        if path is None:
            path = wrong_row(bag, roots, table)
        if path is not None:
            raise BadAssembly(path)
        self._bag = bag
        self._roots = tuple(roots)
        self._places = {name: place for place, name in table}
        standing = {place: name for place, name in table}
        self._table = {place: standing[place] for place in colours_at(bag, roots)}

    def bag(self):
        """Return the bag."""
        return self._bag

    def roots(self):
        """Return the tuple of the roots."""
        return self._roots

    def table(self):
        """Return the list of the pairs of a place and the name of its joint, in the order of places."""
        return list(self._table.items())

    def joint(self, place):
        """Return the name of the joint that stands at a place."""
        if not is_among(self._table, place):
            raise UnknownName(place)
        return self._table[place]

    def place(self, name):
        """Return the place at which the joint with this name stands."""
        # Only a string is looked up: other values may be no keys.
        if not isinstance(name, str) or name not in self._places:
            raise UnknownName(name)
        return self._places[name]

    def rings(self):
        """Return the list of the rings, by the order of their first places."""
        found = []
        ringed = {}
        for place in self._table:
            if place not in ringed:
                ring = self._ring_from(place)
                for other in ring:
                    ringed[other] = True
                if ring:
                    found.append(ring)
        return found

    def _ring_from(self, place):
        """Return the ring that begins with a place, told downwards; () if the place is in no ring."""
        upwards = [place]
        met = {place: True}
        while upwards[-1][0] != ROOT:
            over = self._places[upwards[-1][0]]
            if over == place:
                return (place, *upwards[:0:-1])
            if over in met:
                return ()
            upwards.append(over)
            met[over] = True
        return ()

    def pieces(self):
        """Return the list of the pieces, lists of names: that of the roots, and then those of the rings."""
        rings = self.rings()
        numbers = {place: k + 1 for k, ring in enumerate(rings) for place in ring}
        found = [[] for _ in range(len(rings) + 1)]
        for name in self._bag.names():
            place = self._places[name]
            while place[0] != ROOT and place not in numbers:
                place = self._places[place[0]]
            found[numbers.get(place, 0)].append(name)
        return found

    def grove(self):
        """Return the Grove with the same joints at the same places, or None if there is a ring."""
        if self.rings():
            return None
        return grove_from(self._bag, self._roots, self._table)

    def __eq__(self, other):
        if not isinstance(other, Assembly):
            return False
        return self._bag == other._bag and self._roots == other._roots and self._table == other._table


def assembly_of(grove):
    """Return the Assembly with the same joints at the same places as a Grove."""
    return Assembly(grove.bag(), grove.roots(), grove.table())
