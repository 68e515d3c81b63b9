"""Deeds: where they lead, how they are taken back, and all that can be done at a grove."""

from bushcoins.bags import colours_at, places_of
from bushcoins.errors import BadDeed
from bushcoins.groves import grove_from
from bushcoins.pieces import HANG, STRETCH, can_hang, can_stretch, hanging, is_deed, lies_at


def check_deed(grove, deed):
    """Raise BadDeed(0) if deed, which may be anything, can not be done at the grove."""
    if not is_deed(grove, deed):
        raise BadDeed(0)


def sources(deed):
    """Return the dict from each place that a deed touches to the place whose joint stands there afterwards."""
    if deed[0] == HANG:
        _, s, t = deed
        return {s: t, t: s}
    _, s, t, u, v = deed
    # An empty stretch at s, and one that ends where the other begins, both let three joints go on in one round.
    if t == s or t == u:
        return {s: u, u: v, v: s}
    if v == u or v == s:
        return {u: s, s: t, t: u}
    return {s: u, u: s, t: v, v: t}


def paid_at(deed):
    """Return the tuple of the places in whose colours a deed costs a coin each."""
    return deed[1:2] if deed[0] == HANG else deed[1:3]


def moved(grove, deed):
    """Return the grove to which a deed leads that can be done."""
    comes = sources(deed)
    standing = {place: name for place, name in grove.table()}
    table = {place: standing[comes.get(place, place)] for place in standing}
    return grove_from(grove.bag(), grove.roots(), table)


def done(grove, deed):
    """Return the grove to which a deed, which may be anything, leads."""
    check_deed(grove, deed)
    return moved(grove, deed)


def back_from(deed):
    """Return a deed that takes back a deed, at the grove to which it leads."""
    if deed[0] == HANG:
        return deed
    _, s, t, u, v = deed
    if s == t:
        return (STRETCH, s, v, u, u)
    if u == v:
        return (STRETCH, u, t, s, s)
    if t == u:
        return (STRETCH, s, v, v, t)
    if v == s:
        return (STRETCH, u, t, t, v)
    return (STRETCH, s, v, u, t)


def taken_back(grove, deed):
    """Return the canonical deed by which a deed, which may be anything, is taken back."""
    check_deed(grove, deed)
    return canonical(grove.bag(), grove.roots(), back_from(deed))


def canonical(bag, roots, deed):
    """Return the canonical one of a deed."""
    half = (len(deed) + 1) // 2
    one = deed[1:half]
    other = deed[half:]
    places = places_of(bag, roots)
    if places.index(other[0]) < places.index(one[0]):
        return (deed[0], *other, *one)
    return deed


def all_hangs(grove):
    """Return the list of the canonical deeds of one coin, in order."""
    bits = hanging(grove)
    colours = colours_at(grove.bag(), grove.roots())
    places = list(bits)
    return [
        (HANG, s, t)
        for k, s in enumerate(places)
        for t in places[k + 1:]
        if can_hang(colours, bits, s, t)
    ]


def all_deeds(grove):
    """Return the list of all canonical deeds that can be done at the grove, in order."""
    bits = hanging(grove)
    colours = colours_at(grove.bag(), grove.roots())
    numbers = {place: k for k, place in enumerate(bits)}
    stretches = [(s, t) for s in bits for t in bits if lies_at(bits, s, t)]
    found = all_hangs(grove)
    for s, t in stretches:
        for u, v in stretches:
            if numbers[s] < numbers[u] and can_stretch(colours, bits, s, t, u, v):
                found.append((STRETCH, s, t, u, v))
    return found


def hang_count(grove):
    """Return the number of the canonical deeds of one coin."""
    colours = colours_at(grove.bag(), grove.roots())
    many = {colour: 0 for colour in colours.values()}
    found = 0
    for place, colour in colours.items():
        above = [other for other in grove.above(place) if colours[other] == colour]
        found = found + many[colour] - len(above)
        many[colour] += 1
    return found
