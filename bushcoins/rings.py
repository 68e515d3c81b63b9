"""The difference of two groves of one bag and with the same roots, and its rings."""

from bushcoins.errors import UnlikeGroves


def check_alike(one, other):
    """Raise UnlikeGroves if two groves are not of one bag or do not have the same roots."""
    if one.bag() != other.bag() or one.roots() != other.roots():
        raise UnlikeGroves()


def difference(f, g):
    """Return the list of the pairs of a place and the place to which the difference leads it, in order."""
    check_alike(f, g)
    return [(place, g.place(name)) for place, name in f.table()]


def rings_in(leads):
    """Return the list of the rings of a difference, a dict from each place, in order, to another place."""
    found = []
    met = {}
    for first in leads:
        if first not in met:
            ring = [first]
            while leads[ring[-1]] != first:
                ring.append(leads[ring[-1]])
            for place in ring:
                met[place] = True
            found.append(tuple(ring))
    return found


def rings(f, g):
    """Return the list of all rings, in the order of their first places."""
    leads = {place: other for place, other in difference(f, g)}
    return rings_in(leads)


def right_places(f, g):
    """Return the list of the right places, in order."""
    return [place for place, other in difference(f, g) if place == other]
