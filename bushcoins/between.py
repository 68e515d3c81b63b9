"""What lies between two groves: the deeds that begin a fewest way, and the groves to which such ways come."""

from bushcoins.coins import coins
from bushcoins.deeds import all_deeds, check_deed, moved, paid_at, sources
from bushcoins.rings import difference, rings_in


def change_in(leads, deed):
    """Return the change of a deed; leads is the difference, a dict."""
    comes = sources(deed)
    # What stands at a place afterwards is led from there to where it was led before.
    behind = {place: leads[comes.get(place, place)] for place in leads}
    return len(rings_in(behind)) - len(rings_in(leads))


def begins_in(leads, deed):
    """Return whether a deed begins a fewest way; leads is the difference, a dict."""
    return change_in(leads, deed) == len(paid_at(deed))


def checked(f, g, deed):
    """Return the difference as a dict, if deed, which may be anything, can be done in f."""
    pairs = difference(f, g)
    check_deed(f, deed)
    return {place: other for place, other in pairs}


def change(f, g, deed):
    """Return the change of a deed, which may be anything, with respect to g."""
    return change_in(checked(f, g, deed), deed)


def begins(f, g, deed):
    """Return whether a deed, which may be anything, begins a fewest way to g."""
    return begins_in(checked(f, g, deed), deed)


def first_deeds(f, g):
    """Return the list of all canonical deeds that begin a fewest way to g, in the order of all_deeds."""
    leads = {place: other for place, other in difference(f, g)}
    return [deed for deed in all_deeds(f) if begins_in(leads, deed)]


def is_between(f, h, g):
    """Return whether h is between f and g."""
    return coins(f, h) + coins(h, g) == coins(f, g)


def row_of(grove):
    """Return the tuple of the numbers of the joints that stand at the places, in the order of places."""
    numbers = {name: k for k, name in enumerate(grove.bag().names())}
    return tuple([numbers[name] for _, name in grove.table()])


def all_between(f, g):
    """Return the list of all groves between f and g, by the coins from f and then by the joints at their places."""
    found = {row_of(f): f}
    waiting = [f]
    while waiting:
        h = waiting.pop()
        for deed in first_deeds(h, g):
            other = moved(h, deed)
            row = row_of(other)
            if row not in found:
                found[row] = other
                waiting.append(other)
    order = sorted([(coins(f, h), row) for row, h in found.items()])
    return [found[row] for _, row in order]


def count_ways(f, g):
    """Return the number of fewest ways from f to g."""
    numbers = {}
    # Each deed that begins a fewest way leads farther from f, so the groves behind it are counted already.
    for h in reversed(all_between(f, g)):
        behind = [numbers[row_of(moved(h, deed))] for deed in first_deeds(h, g)]
        numbers[row_of(h)] = sum(behind) if behind else 1
    return numbers[row_of(f)]
