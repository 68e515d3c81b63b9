"""Lists of facts that do not clash, and the bags and roots into which they melt."""

from bushcoins.bags import ROOT, Bag, colours_at, is_among
from bushcoins.books import Book
from bushcoins.errors import Clash, UnlikeGroves
from bushcoins.groves import grove_from


def is_fact(bag, colours, value):
    """Return whether value, which may be anything, is a fact; colours has the places as keys."""
    if not isinstance(value, tuple) or len(value) != 2 or not is_among(colours, value[0]):
        return False
    return value[1] in bag.names()


def leads_up(places, low, name):
    """Return whether one comes from a joint upwards to the one with this name, or whether it is this one itself.

    places is the dict from the joints whose places are told to these.
    """
    while low != name and low in places:
        low = places[low][0]
    return low == name


def clash_word(bag, colours, earlier, fact):
    """Return the word of a fact, which may be anything, that clashes behind earlier ones; None if it does not."""
    if not is_fact(bag, colours, fact):
        return "form"
    place, name = fact
    if colours[place] != bag.stem(name):
        return "colour"
    joints = {other: joint for other, joint in earlier}
    if joints.get(place, name) != name:
        return "place"
    places = {joint: other for other, joint in earlier}
    if places.get(name, place) != place:
        return "name"
    return "ring" if leads_up(places, place[0], name) else None


def first_clash(bag, roots, facts):
    """Return the number and the word of the first fact that clashes, or None; facts may be anything."""
    if not isinstance(facts, (list, tuple)):
        return (0, "form")
    colours = colours_at(bag, roots)
    for k, fact in enumerate(facts):
        word = clash_word(bag, colours, facts[:k], fact)
        if word is not None:
            return (k, word)
    return None


def check_clash(bag, roots, facts):
    """Raise Clash for the first fact that clashes."""
    clash = first_clash(bag, roots, facts)
    if clash is not None:
        raise Clash(clash[0])


def joint_places(bag, name):
    """Return the list of the places of a joint."""
    return [(name, n) for n in range(len(bag.branches(name)))]


def open_from(bag, facts, places):
    """Return the list of places in which each told one is replaced by the open places of its joint."""
    told = {place: name for place, name in facts}
    found = []
    waiting = list(reversed(places))
    while waiting:
        place = waiting.pop()
        if place in told:
            waiting.extend(joint_places(bag, told[place])[::-1])
        else:
            found.append(place)
    return found


def open_places(bag, roots, facts, name):
    """Return the list of the open places of a joint, whose name may be anything."""
    check_clash(bag, roots, facts)
    # The bag refuses what is no name.
    return open_from(bag, facts, joint_places(bag, name))


def open_roots(bag, roots, facts):
    """Return the list of the places for which the melted roots stand."""
    return open_from(bag, facts, [(ROOT, n) for n in range(len(roots))])


def untold(bag, facts):
    """Return the list of the names of the joints that are not told."""
    told = {name: True for _, name in facts}
    return [name for name in bag.names() if name not in told]


def melted(bag, roots, facts):
    """Return the pair of the melted bag and the tuple of the melted roots."""
    check_clash(bag, roots, facts)
    colours = colours_at(bag, roots)
    names = untold(bag, facts)
    shapes = []
    for name in names:
        places = open_from(bag, facts, joint_places(bag, name))
        shapes.append((name, bag.stem(name), tuple([colours[place] for place in places])))
    tops = tuple([colours[place] for place in open_roots(bag, roots, facts)])
    return Bag(Book(shapes), [(name, name) for name in names]), tops


def stands_for(bag, roots, facts):
    """Return the list of the pairs of a place of the melted bag and roots and the place for which it stands."""
    check_clash(bag, roots, facts)
    found = [((ROOT, n), place) for n, place in enumerate(open_roots(bag, roots, facts))]
    for name in untold(bag, facts):
        for n, place in enumerate(open_from(bag, facts, joint_places(bag, name))):
            found.append(((name, n), place))
    return found


def first_missing(grove, facts):
    """Return the number of the first fact that a grove does not have, or None."""
    for k, (place, name) in enumerate(facts):
        if grove.joint(place) != name:
            return k
    return None


def melted_grove(grove, facts):
    """Return the grove of the melted bag and roots that belongs to a grove."""
    bag, roots = melted(grove.bag(), grove.roots(), facts)
    number = first_missing(grove, facts)
    if number is not None:
        raise Clash(number)
    pairs = stands_for(grove.bag(), grove.roots(), facts)
    return grove_from(bag, roots, {place: grove.joint(other) for place, other in pairs})


def unmelted_grove(bag, roots, facts, grove):
    """Return the grove that belongs to a grove of the melted bag and roots."""
    rest, tops = melted(bag, roots, facts)
    if grove.bag() != rest or grove.roots() != tops:
        raise UnlikeGroves()
    table = {place: name for place, name in facts}
    for place, other in stands_for(bag, roots, facts):
        table[other] = grove.joint(place)
    return grove_from(bag, roots, table)
