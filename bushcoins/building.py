"""Whether joints can be put together to a grove, what bars it, and such a grove."""

from bushcoins.bags import ROOT, colours_at
from bushcoins.errors import Unbuilt
from bushcoins.groves import grove_from
from bushcoins.words import is_word


def counted(values):
    """Return the dict from each value of a list to how often it stands there."""
    found = {}
    for value in values:
        found[value] = found.get(value, 0) + 1
    return found


def balance(bag, roots):
    """Return the ascending list of the tuples of a colour and of how many stems and how many places have it."""
    joints = counted([bag.stem(name) for name in bag.names()])
    places = counted(list(colours_at(bag, roots).values()))
    return [(colour, joints.get(colour, 0), places.get(colour, 0)) for colour in sorted({**joints, **places})]


def names_by_stem(bag):
    """Return the dict from each colour of a stem to the list of the names of the joints that have it."""
    found = {}
    for name in bag.names():
        found.setdefault(bag.stem(name), []).append(name)
    return found


def reached_by(bag, roots):
    """Return a dict with the reached colours as keys.

    To each belongs a joint that has a branch of it, and a stem of a colour that was reached before; or None for a root.
    """
    joints = names_by_stem(bag)
    found = {root: None for root in roots}
    waiting = list(found)
    while waiting:
        for name in joints.get(waiting.pop(), []):
            for colour in bag.branches(name):
                if colour not in found:
                    found[colour] = name
                    waiting.append(colour)
    return found


def reached(bag, roots):
    """Return the ascending list of the reached colours."""
    return sorted(reached_by(bag, roots))


def closed_bar(bag, roots):
    """Return ("closed", reached colours) if the stem of some joint has none of these, and None otherwise."""
    colours = reached_by(bag, roots)
    if all([bag.stem(name) in colours for name in bag.names()]):
        return None
    return ("closed", tuple(sorted(colours)))


def first_bar(bag, roots):
    """Return the bar that built tells, or None if there is a grove."""
    for colour, joints, places in balance(bag, roots):
        if joints != places:
            return ("colour", colour)
    return closed_bar(bag, roots)


def can_build(bag, roots):
    """Return whether there is a grove of a bag and roots."""
    return first_bar(bag, roots) is None


def check_built(bag, roots):
    """Raise Unbuilt if there is no grove of a bag and roots."""
    bar = first_bar(bag, roots)
    if bar is not None:
        raise Unbuilt(bar[0], bar[1])


def seated(bag, roots):
    """Return a dict from each place to a joint with a stem of its colour, or to None if there are too few of these.

    Roots come first, and of no colour are there more joints than places.
    """
    joints = names_by_stem(bag)
    found = {}
    for place, colour in colours_at(bag, roots).items():
        found[place] = joints[colour].pop(0) if joints.get(colour) else None
    return found


def first_places(bag, roots, table):
    """Return the dict with all roots as keys, and the branches of all joints that come to them."""
    found = {}
    waiting = [(ROOT, n) for n in range(len(roots))]
    while waiting:
        place = waiting.pop()
        found[place] = True
        if table[place] is not None:
            for n in range(len(bag.branches(table[place]))):
                waiting.append((table[place], n))
    return found


def ring_place(bag, roots, table):
    """Return a place of some ring, or None if there is none."""
    places = {name: place for place, name in table.items() if name is not None}
    first = first_places(bag, roots, table)
    outside = [place for place in places.values() if place not in first]
    if not outside:
        return None
    # Whoever goes up from outside comes round a ring, at the latest after as many steps as there are joints.
    found = outside[0]
    for _ in range(len(places)):
        found = places[found[0]]
    return found


def next_exchange(bag, roots, table, target):
    """Return the next one of the exchanges of S6.8 that end the ring of a place, or None if it is in no ring."""
    first = first_places(bag, roots, table)
    if target in first:
        return None
    colours = colours_at(bag, roots)
    known = {colours[place]: place for place in first}
    places = {name: place for place, name in table.items()}
    by = reached_by(bag, roots)
    # From the ring's colour back towards the roots, to the first colour that the first piece has.
    moving = target
    colour = colours[target]
    while colour not in known:
        moving = places[by[colour]]
        colour = bag.stem(by[colour])
    return (known[colour], moving)


def behind_all(table, exchanges):
    """Return the dict from each place to what stands there behind a list of exchanges, one after the other."""
    found = {place: name for place, name in table.items()}
    for s, t in exchanges:
        found[s], found[t] = found[t], found[s]
    return found


def exchanges_to_roots(bag, roots, table):
    """Return a list of exchanges after which all joints come to roots.

    table is a dict from each place to the name of its joint, or None, but for roots. All stems have reached colours.
    """
    found = []
    target = ring_place(bag, roots, table)
    while target is not None:
        # The same chain of colours is kept until the ring ends: so no more exchanges are needed than it has colours.
        pair = next_exchange(bag, roots, table, target)
        while pair is not None:
            found.append(pair)
            table = behind_all(table, [pair])
            pair = next_exchange(bag, roots, table, target)
        target = ring_place(bag, roots, table)
    return found


def put_together(bag, roots):
    """Return a dict from each place to its joint, or to None, such that all joints come to roots; this can be done."""
    table = seated(bag, roots)
    return behind_all(table, exchanges_to_roots(bag, roots, table))


def built(bag, roots):
    """Return a Grove of a bag and roots."""
    check_built(bag, roots)
    return grove_from(bag, roots, put_together(bag, roots))


def is_ascending(value):
    """Return whether value, which may be anything, is a tuple of ascending words."""
    if not isinstance(value, tuple) or not all([is_word(colour) for colour in value]):
        return False
    return all([value[k] < value[k + 1] for k in range(len(value) - 1)])


def is_closed(bag, roots, value):
    """Return whether ("closed", value) is a bar; value may be anything."""
    if not is_ascending(value) or not all([root in value for root in roots]):
        return False
    for name in bag.names():
        if bag.stem(name) in value and not all([colour in value for colour in bag.branches(name)]):
            return False
    return not all([bag.stem(name) in value for name in bag.names()])


def judge_bar(bag, roots, value):
    """Return whether value, which may be anything, is a bar."""
    if not isinstance(value, tuple) or len(value) != 2:
        return False
    if value[0] == "colour":
        return any([value[1] == colour and joints != places for colour, joints, places in balance(bag, roots)])
    return value[0] == "closed" and is_closed(bag, roots, value[1])
