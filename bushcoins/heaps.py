"""Heaps: bushes with open branches, and the fewest bushes into which a bag can be packed."""

from bushcoins.bags import ROOT, places_of
from bushcoins.building import balance, closed_bar, counted, is_closed, names_by_stem, put_together, reached
from bushcoins.errors import Unbuilt
from bushcoins.groves import bushes_from


def is_heap(bag, value):
    """Return whether value, which may be anything, is a heap of the bag."""
    if not isinstance(value, (list, tuple)):
        return False
    left = {name: True for name in bag.names()}
    # None stands for the colour of no branch: any joint may be the first one of a bush.
    waiting = [(bush, None) for bush in value]
    while waiting:
        bush, colour = waiting.pop()
        if not isinstance(bush, tuple) or len(bush) == 0:
            return False
        name = bush[0]
        if not isinstance(name, str) or name not in left or colour not in (None, bag.stem(name)):
            return False
        branches = bag.branches(name)
        if len(bush) != len(branches) + 1:
            return False
        del left[name]
        for part, branch in zip(bush[1:], branches):
            if part is not None:
                waiting.append((part, branch))
    return not left


def heap_roots(bag, heap):
    """Return the tuple of the roots of a heap."""
    return tuple([bag.stem(bush[0]) for bush in heap])


def open_places(bag, heap):
    """Return the list of the open branches of a heap, in the order of places."""
    found = {}
    waiting = list(heap)
    while waiting:
        bush = waiting.pop()
        for n in range(len(bush) - 1):
            if bush[n + 1] is None:
                found[(bush[0], n)] = True
            else:
                waiting.append(bush[n + 1])
    return [place for place in places_of(bag, ()) if place in found]


def walk_open(bush):
    """Return the list of a bush and of all bushes in it, and None for each open branch, in the order of a walk."""
    found = []
    waiting = [bush]
    while waiting:
        part = waiting.pop()
        found.append(part)
        if part is not None:
            waiting.extend(part[:0:-1])
    return found


def filled(bush, parts):
    """Return a bush with the members of parts in the places of None, in the order of a walk."""
    left = list(parts)
    # From the end of the walk on, the bushes of a bush are made ahead of it, its first one last.
    made = []
    for part in reversed(walk_open(bush)):
        if part is None:
            made.append(left.pop())
        else:
            below = [made.pop() for _ in range(len(part) - 1)]
            made.append((part[0], *below))
    return made[0]


def colour_bars(bag, roots):
    """Return the list of the heap bars that tell a colour, ascending by the colours."""
    tops = counted(roots)
    found = []
    for colour, joints, places in balance(bag, roots):
        if tops.get(colour, 0) > joints:
            found.append(("many", colour))
        # Places of a colour are its roots and its branches.
        if places < joints:
            found.append(("few", colour))
    return found


def first_heap_bar(bag, roots):
    """Return the heap bar that packed tells, or None if there is a heap."""
    found = colour_bars(bag, roots)
    return found[0] if found else closed_bar(bag, roots)


def can_pack(bag, roots):
    """Return whether there is a heap of a bag with these roots."""
    return first_heap_bar(bag, roots) is None


def packed(bag, roots):
    """Return a heap of a bag with these roots, a list."""
    bar = first_heap_bar(bag, roots)
    if bar is not None:
        raise Unbuilt(bar[0], bar[1])
    table = put_together(bag, roots)
    return bushes_from(bag, table, [table[(ROOT, n)] for n in range(len(roots))])


def judge_heap_bar(bag, roots, value):
    """Return whether value, which may be anything, is a heap bar."""
    if not isinstance(value, tuple) or len(value) != 2:
        return False
    if value[0] == "closed":
        return is_closed(bag, roots, value[1])
    return value in colour_bars(bag, roots)


def surplus(bag):
    """Return the ascending list of the pairs of a colour in surplus and how many stems more than branches have it."""
    return [(colour, joints - places) for colour, joints, places in balance(bag, ()) if joints > places]


def lots(bag):
    """Return the list of the lots, ascending by their first colours."""
    many = {colour: True for colour, _ in surplus(bag)}
    stems = sorted(names_by_stem(bag))
    behind = {stem: reached(bag, [stem]) for stem in stems}
    # A lot that has a colour has all colours from which it is reached, and is the least such tuple.
    ahead = {stem: tuple([other for other in stems if stem in behind[other]]) for stem in stems}
    found = []
    for stem in stems:
        lot = ahead[stem]
        if lot[0] == stem and all([ahead[other] == lot and other not in many for other in lot]):
            found.append(lot)
    return found


def judge_lot(bag, value):
    """Return whether value, which may be anything, is a lot."""
    return value in lots(bag)


def fewest(bag):
    """Return the fewest bushes of a heap of a bag."""
    return sum([many for _, many in surplus(bag)]) + len(lots(bag))


def packed_fewest(bag):
    """Return a heap with the fewest bushes, a list."""
    roots = [colour for colour, many in surplus(bag) for _ in range(many)]
    return packed(bag, roots + [lot[0] for lot in lots(bag)])
