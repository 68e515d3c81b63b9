"""Searches through all possibilities, for small bags, and random bags and assemblies to try them on."""

import itertools

from bushcoins.assemblies import Assembly
from bushcoins.bags import Bag
from bushcoins.books import Book

COLOURS = ("blue", "green", "red", "white")


def random_book(draw, colours, shapes, branches):
    """A book with so many shapes, each with at most so many branches."""
    rows = []
    for k in range(shapes):
        many = draw.randrange(branches + 1)
        rows.append((f"s{k}", draw.choice(colours), tuple(draw.choice(colours) for _ in range(many))))
    return Book(rows)


def random_bag(draw, joints, colours=COLOURS[:3], shapes=4, branches=2, book=None):
    book = book or random_book(draw, colours, shapes, branches)
    names = [f"n{k}" for k in range(joints)]
    draw.shuffle(names)
    return Bag(book, [(name, draw.choice(book.words())) for name in names])


def counts_of(bag, roots):
    """The dicts of how many stems, branches and roots have each colour of COLOURS or of the roots."""
    stems, branches, tops = {}, {}, {}
    for colour in list(COLOURS) + list(roots):
        stems[colour] = len([name for name in bag.names() if bag.stem(name) == colour])
        branches[colour] = len([1 for name in bag.names() for each in bag.branches(name) if each == colour])
        tops[colour] = len([root for root in roots if root == colour])
    return stems, branches, tops


def roots_for(draw, bag, also=()):
    """Roots with which a bag is balanced, or None if it has too many branches of some colour."""
    stems, branches, _ = counts_of(bag, also)
    roots = []
    for colour in stems:
        if branches[colour] > stems[colour]:
            return None
        roots += [colour] * (stems[colour] - branches[colour])
    draw.shuffle(roots)
    return roots


def balanced_bag(draw, joints, **told):
    """A random bag and roots with which it is balanced."""
    while True:
        bag = random_bag(draw, joints, **told)
        roots = roots_for(draw, bag)
        if roots is not None:
            return bag, roots


def some_grove(bag, roots):
    """The bushes of some grove, found by trying all joints along a walk, or None if there is none."""
    def go_on(waiting, left):
        """The rows of names from here on, as a list of names, or None."""
        if not waiting:
            return [] if not left else None
        colour, rest = waiting[0], waiting[1:]
        tried = []
        for name in left:
            kind = (bag.stem(name), bag.branches(name))
            if kind[0] != colour or kind in tried:
                continue
            tried.append(kind)
            behind = go_on(list(bag.branches(name)) + rest, [each for each in left if each != name])
            if behind is not None:
                return [name] + behind
        return None

    return go_on(list(roots), bag.names())


def has_heap(bag, roots):
    """Whether there is a heap with these roots, by trying all joints, or none, at each place."""
    known = {}

    def go_on(waiting, left, must):
        """waiting are colours of places; the first must of them are roots, which stay not open."""
        key = (tuple(waiting), tuple(left), must)
        if key in known:
            return known[key]
        found = False
        if not waiting:
            found = not left
        else:
            colour, rest = waiting[0], waiting[1:]
            tried = []
            for name in left:
                kind = (bag.stem(name), bag.branches(name))
                if kind[0] == colour and kind not in tried:
                    tried.append(kind)
                    behind = [each for each in left if each != name]
                    found = found or go_on(rest + list(bag.branches(name)), behind, max(must - 1, 0))
            if not found and must == 0:
                found = go_on(rest, left, 0)
        known[key] = found
        return found

    return go_on(list(roots), bag.names(), len(roots))


def fewest_roots(bag):
    """The least number of roots of a heap, by trying all roots."""
    stems = sorted(bag.stem(name) for name in bag.names())
    for many in range(len(stems) + 1):
        for roots in sorted(set(itertools.combinations(stems, many))):
            if has_heap(bag, roots):
                return many
    return None


def all_lots(bag):
    """All lots, by looking at all sets of colours, as S6.5 tells them."""
    stems, branches, _ = counts_of(bag, ())

    def is_kind(colours):
        for colour in colours:
            if stems[colour] == 0 or stems[colour] > branches[colour]:
                return False
        for name in bag.names():
            if bag.stem(name) not in colours and [each for each in bag.branches(name) if each in colours]:
                return False
        return True

    kinds = []
    for many in range(1, len(COLOURS) + 1):
        for colours in itertools.combinations(COLOURS, many):
            if is_kind(colours) and not [one for one in kinds if set(one) <= set(colours)]:
                kinds.append(colours)
    return sorted(kinds)


def reached_of(bag, roots):
    """The reached colours, by adding colours until none comes more."""
    found = set(roots)
    while True:
        more = {each for name in bag.names() if bag.stem(name) in found for each in bag.branches(name)} - found
        if not more:
            return sorted(found)
        found |= more


def random_assembly(draw, bag, roots):
    """Any assembly of a bag and roots that are balanced."""
    by_colour = {}
    for n, root in enumerate(roots):
        by_colour.setdefault(root, []).append(("root", n))
    for name in bag.names():
        for n, colour in enumerate(bag.branches(name)):
            by_colour.setdefault(colour, []).append((name, n))
    table = []
    for name in bag.names():
        free = by_colour[bag.stem(name)]
        table.append((free.pop(draw.randrange(len(free))), name))
    draw.shuffle(table)
    return Assembly(bag, roots, table)


class Standing:
    """An assembly as a plain dict, with its rings and pieces found by going up."""

    def __init__(self, bag, roots, table):
        self.bag = bag
        self.roots = tuple(roots)
        self.table = {place: name for place, name in table}
        self.places = {name: place for place, name in self.table.items()}

    def colour(self, place):
        return self.roots[place[1]] if place[0] == "root" else self.bag.branches(place[0])[place[1]]

    def up(self, place):
        """The places from this one upwards, until a root or a place once more."""
        found = [place]
        while found[-1][0] != "root" and self.places[found[-1][0]] not in found:
            found.append(self.places[found[-1][0]])
        return found

    def ring_sets(self):
        """The sets of the places of rings, by their first places in the order of places."""
        order = [("root", n) for n in range(len(self.roots))]
        order += [(name, n) for name in self.bag.names() for n in range(len(self.bag.branches(name)))]
        found = []
        for place in order:
            up = self.up(place)
            if up[-1][0] != "root" and self.places[up[-1][0]] == place and set(up) not in found:
                found.append(set(up))
        return found

    def is_grove(self):
        return not self.ring_sets()

    def piece(self, name, rings):
        """The number of the piece of a joint: 0, or one more than that of a ring."""
        end = self.up(self.places[name])[-1]
        if end[0] == "root":
            return 0
        return 1 + [end in ring for ring in rings].index(True)

    def steps(self):
        """Pairs (ring, piece): from the piece of a ring a step leads to another piece."""
        rings = self.ring_sets()
        found = set()
        for k, ring in enumerate(rings):
            for place in self.table:
                piece = 0 if place[0] == "root" else self.piece(place[0], rings)
                if piece != k + 1 and [each for each in ring if self.colour(each) == self.colour(place)]:
                    found.add((k, piece))
        return found

    def knots(self):
        """All knots, ascending tuples, by looking at all sets of rings."""
        steps = self.steps()
        numbers = range(len(self.ring_sets()))
        found = []
        for many in range(1, len(numbers) + 1):
            for knot in itertools.combinations(numbers, many):
                if not [1 for k, piece in steps if k in knot and piece - 1 not in knot]:
                    found.append(knot)
        return found

    def exchanges(self):
        places = list(self.table)
        return [(s, t) for s in places for t in places if s < t and self.colour(s) == self.colour(t)]

    def behind(self, exchange):
        s, t = exchange
        rows = [(place, self.table[{s: t, t: s}.get(place, place)]) for place in self.table]
        return Standing(self.bag, self.roots, rows)

    def can_mend(self, many):
        """Whether some so many exchanges make a grove, where each must end a ring."""
        if many == 0:
            return self.is_grove()
        if len(self.ring_sets()) > many:
            return False
        return any(self.behind(exchange).can_mend(many - 1) for exchange in self.exchanges())
