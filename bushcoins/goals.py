"""Goals: the coins that are left to them, and how near they are."""

from bushcoins.coins import coins
from bushcoins.deeds import paid_at
from bushcoins.rings import check_alike
from bushcoins.scripts import steps


def left_after(f, g, script):
    """Return the list of the coins to g, from f and then behind each deed of a script."""
    check_alike(f, g)
    return [coins(h, g) for h in steps(f, script)]


def waste(f, g, script):
    """Return how many coins more than fewest ways a script costs, if a fewest way follows it."""
    left = left_after(f, g, script)
    return sum([len(paid_at(deed)) for deed in script]) - left[0] + left[-1]


def barred_nails(f, g, places):
    """Return the list of those of places at which two groves have different joints, in the order of places."""
    check_alike(f, g)
    return [place for place, name in f.table() if place in places and g.joint(place) != name]


def nearest(f, goals):
    """Return the number of the first one of goals to which the fewest coins lead."""
    left = [coins(f, goal) for goal in goals]
    return left.index(min(left))
