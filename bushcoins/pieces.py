"""Stretches of a grove, and which deeds can be done at it."""

from bushcoins.bags import ROOT, colour_of, colours_at, is_among

HANG = "hang"
STRETCH = "stretch"
# The first member of a deed, and how many members it has.
FORMS = ((("hang",), 3), (("stretch",), 5))


def hanging(grove):
    """Return the dict from each place, in order, to a number whose bits tell the joints that hang there."""
    walk = grove.walk()
    bits = {name: 1 << k for k, name in enumerate(walk)}
    # A joint comes behind all that hangs at it if one goes back from the end of a walk.
    for name in reversed(walk):
        owner = grove.place(name)[0]
        if owner != ROOT:
            bits[owner] = bits[owner] | bits[name]
    return {place: bits[name] for place, name in grove.table()}


def lies_at(bits, s, t):
    """Return whether all that hangs at t hangs at s: whether s is t or above t."""
    return (bits[s] & bits[t]) == bits[t]


def is_stretch(grove, s, t):
    """Return whether s and t, which may be anything, are places that make a stretch."""
    bits = hanging(grove)
    return is_among(bits, s) and is_among(bits, t) and lies_at(bits, s, t)


def joints_of(grove, s, t):
    """Return the list of the names of the joints of a stretch, in the order of a walk."""
    below = {name: True for name in grove.names(t)}
    return [name for name in grove.names(s) if name not in below]


def colours_of(grove, s, t):
    """Return the pair of the colours of a stretch."""
    return (colour_of(grove.bag(), grove.roots(), s), colour_of(grove.bag(), grove.roots(), t))


def can_hang(colours, bits, s, t):
    """Return whether what hangs at two places can change places for one coin."""
    # Places are apart exactly if nothing hangs at both of them.
    return colours[s] == colours[t] and (bits[s] & bits[t]) == 0


def can_stretch(colours, bits, s, t, u, v):
    """Return whether s to t and u to v are stretches that can be exchanged for two coins."""
    if colours[s] != colours[u] or colours[t] != colours[v]:
        return False
    if not lies_at(bits, s, t) or not lies_at(bits, u, v):
        return False
    one = bits[s] ^ bits[t]
    other = bits[u] ^ bits[v]
    if one == 0 or other == 0:
        return one != other and (bits[s] & bits[u]) == 0
    return (one & other) == 0


def is_deed(grove, value):
    """Return whether value, which may be anything, is a deed that can be done at the grove."""
    if not isinstance(value, tuple) or (value[:1], len(value)) not in FORMS:
        return False
    bits = hanging(grove)
    if not all([is_among(bits, place) for place in value[1:]]):
        return False
    colours = colours_at(grove.bag(), grove.roots())
    if value[0] == HANG:
        _, s, t = value
        return can_hang(colours, bits, s, t)
    _, s, t, u, v = value
    return can_stretch(colours, bits, s, t, u, v)
