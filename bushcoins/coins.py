"""The fewest coins from one grove to another, and a way that pays no more."""

from bushcoins.bags import ROOT, colours_at
from bushcoins.deeds import canonical, check_deed, moved, paid_at, sources
from bushcoins.errors import UnknownName
from bushcoins.pieces import HANG, STRETCH, joints_of
from bushcoins.rings import check_alike, rings
from bushcoins.scripts import first_bad, walked


def coins(f, g):
    """Return the coins from f to g."""
    return sum([many for _, many in coins_by_colour(f, g)])


def coins_by_colour(f, g):
    """Return the list of the pairs of a colour that places have and the coins in it."""
    found_rings = rings(f, g)
    colours = colours_at(f.bag(), f.roots())
    found = {colour: 0 for colour in colours.values()}
    for ring in found_rings:
        found[colours[ring[0]]] += len(ring) - 1
    return list(found.items())


def least_price(f, g, prices):
    """Return what a fewest way costs; prices is a list of pairs of a colour and what a coin costs in it."""
    known = {colour: price for colour, price in prices}
    found = 0
    for colour, many in coins_by_colour(f, g):
        if colour not in known:
            raise UnknownName(colour)
        found = found + many * known[colour]
    return found


def last_of_piece(f, g, name, piece):
    """Return the last joint of a piece that is met if one goes in g from a joint of it up to the root."""
    inside = {other: True for other in piece}
    found = name
    while name != ROOT:
        if name in inside:
            found = name
        name = g.place(name)[0]
    return found


def deed_at(f, g, a, b):
    """Return a deed that begins a fewest way; a is wrong, no place above it is, and b has in f what g has at a."""
    if f.is_apart(a, b):
        return (HANG, a, b)
    joint = last_of_piece(f, g, f.joint(a), joints_of(f, a, b))
    d = g.place(joint)
    p = f.place(joint)
    if p == a:
        return (STRETCH, a, b, b, d) if f.is_above(b, d) else (STRETCH, a, b, d, d)
    if f.is_above(p, b) and f.is_above(b, d):
        return (STRETCH, a, p, b, d)
    return (HANG, p, d)


def way(f, g):
    """Return a fewest way from f to g, a list of deeds."""
    check_alike(f, g)
    found = []
    while f != g:
        # Where two walks differ first is a wrong place, and no place above it is wrong.
        wrong = [(one, other) for one, other in zip(f.walk(), g.walk()) if one != other]
        deed = deed_at(f, g, f.place(wrong[0][0]), f.place(wrong[0][1]))
        found.append(canonical(f.bag(), f.roots(), deed))
        f = moved(f, deed)
    return found


def judge_way(f, g, script):
    """Return None if script, which may be anything, is a fewest way, and otherwise what is wrong with it."""
    fewest = coins(f, g)
    if not isinstance(script, (list, tuple)):
        return ("form",)
    number = first_bad(f, script)
    if number is not None:
        return ("deed", number)
    if walked(f, script) != g:
        return ("end",)
    paid = sum([len(paid_at(deed)) for deed in script])
    return ("coins", paid - fewest) if paid > fewest else None


def touched(f, deed):
    """Return the list of the places that a deed, which may be anything, touches, in order."""
    check_deed(f, deed)
    comes = sources(deed)
    return [place for place, _ in f.table() if place in comes]
