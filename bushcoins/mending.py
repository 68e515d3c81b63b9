"""Mending: exchanges that make a grove of an assembly with rings."""

from bushcoins.assemblies import Assembly
from bushcoins.bags import ROOT, colours_at, is_among
from bushcoins.building import behind_all, check_built, exchanges_to_roots
from bushcoins.errors import BadDeed, Unbuilt
from bushcoins.words import is_index


def is_exchange(colours, value):
    """Return whether value, which may be anything, is an exchange; colours has the places as keys."""
    if not isinstance(value, tuple) or len(value) != 2:
        return False
    s, t = value
    if not is_among(colours, s) or not is_among(colours, t):
        return False
    return s != t and colours[s] == colours[t]


def first_no_exchange(assembly, values):
    """Return the number of the first one of values that is no exchange, or None."""
    colours = colours_at(assembly.bag(), assembly.roots())
    for number, value in enumerate(values):
        if not is_exchange(colours, value):
            return number
    return None


def exchanged_all(assembly, exchanges):
    """Return the assembly behind a list of exchanges, one after the other."""
    number = first_no_exchange(assembly, exchanges)
    if number is not None:
        raise BadDeed(number)
    table = {place: name for place, name in assembly.table()}
    return Assembly(assembly.bag(), assembly.roots(), list(behind_all(table, exchanges).items()))


def exchanged(assembly, s, t):
    """Return the assembly behind the exchange of two places, which may be anything."""
    return exchanged_all(assembly, [(s, t)])


def places_by_colour(assembly):
    """Return the list of dicts, one for each piece, from each colour of its places to the first place with it."""
    pieces = assembly.pieces()
    numbers = {name: k for k, piece in enumerate(pieces) for name in piece}
    found = [{} for _ in pieces]
    for place, colour in colours_at(assembly.bag(), assembly.roots()).items():
        piece = 0 if place[0] == ROOT else numbers[place[0]]
        found[piece].setdefault(colour, place)
    return found


def step_into(ring, colours, known):
    """Return an exchange of a place of a ring and a place of another piece, or None if there is no step to this.

    known is a dict from each colour of the other piece to a place with it.
    """
    for place in ring:
        if colours[place] in known:
            return (known[colours[place]], place)
    return None


def mended(assembly):
    """Return a mending with as many exchanges as the assembly has rings."""
    rings = assembly.rings()
    colours = colours_at(assembly.bag(), assembly.roots())
    pieces = places_by_colour(assembly)
    known = pieces[0]
    left = list(range(len(rings)))
    found = []
    while left:
        fitting = [k for k in left if step_into(rings[k], colours, known) is not None]
        if not fitting:
            raise Unbuilt("knot", tuple(left))
        # The exchange ends the ring, and its whole piece comes to the first one.
        for k in fitting:
            found.append(step_into(rings[k], colours, known))
            left.remove(k)
        for k in fitting:
            known.update(pieces[k + 1])
    return found


def mended_anyhow(assembly):
    """Return a mending, also where there is a knot."""
    check_built(assembly.bag(), assembly.roots())
    table = {place: name for place, name in assembly.table()}
    return exchanges_to_roots(assembly.bag(), assembly.roots(), table)


def judge_mending(assembly, value):
    """Return whether value, which may be anything, is a mending with as many exchanges as the assembly has rings."""
    if not isinstance(value, (list, tuple)) or len(value) != len(assembly.rings()):
        return False
    if first_no_exchange(assembly, value) is not None:
        return False
    return exchanged_all(assembly, value).grove() is not None


def judge_knot(assembly, value):
    """Return whether value, which may be anything, is a knot."""
    rings = assembly.rings()
    if not isinstance(value, tuple) or len(value) == 0:
        return False
    if not all([is_index(number, len(rings)) for number in value]):
        return False
    if not all([value[k] < value[k + 1] for k in range(len(value) - 1)]):
        return False
    colours = colours_at(assembly.bag(), assembly.roots())
    others = [known for k, known in enumerate(places_by_colour(assembly)) if k - 1 not in value]
    return all([step_into(rings[number], colours, known) is None for number in value for known in others])
