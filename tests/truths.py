"""The facts of groves, by going through all groves, and values that are no facts."""

from bushcoins.bags import Bag
from bushcoins.books import Book
from bushcoins.groves import Grove
from tests.every import every_grove
from tests.lands import MIXED_BOOK, countries
from tests.oracles import table_of
from tests.samples import anything, no_places
from tests.searches import balanced_bag


class Truth:
    """A bag and roots with the tables of all their groves."""

    def __init__(self, bag, roots):
        self.bag = bag
        self.roots = tuple(roots)
        self.groves = [Grove(bag, roots, bushes) for bushes in every_grove(bag, roots)]
        self.tables = [table_of(grove.bushes()) for grove in self.groves]
        self.places = [("root", n) for n in range(len(self.roots))]
        self.places += [(name, n) for name in bag.names() for n in range(len(bag.branches(name)))]

    def colour(self, place):
        return self.roots[place[1]] if place[0] == "root" else self.bag.branches(place[0])[place[1]]

    def fitting(self, place):
        """The names of the joints whose stem has the colour of a place."""
        return [name for name in self.bag.names() if self.bag.stem(name) == self.colour(place)]

    def with_facts(self, facts):
        """The numbers of the groves that have all facts."""
        return [
            k for k, table in enumerate(self.tables) if all(table.get(place) == name for place, name in facts)
        ]

    def clash(self, facts):
        """The first fact that clashes, with its word, by S8.1."""
        for k, (place, name) in enumerate(facts):
            earlier = facts[:k]
            if self.colour(place) != self.bag.stem(name):
                return (k, "colour")
            if [1 for other, joint in earlier if other == place and joint != name]:
                return (k, "place")
            if [1 for other, joint in earlier if joint == name and other != place]:
                return (k, "name")
            up = [place[0]]
            while [other for other, joint in earlier if joint == up[-1]]:
                up.append([other[0] for other, joint in earlier if joint == up[-1]][0])
            if name in up:
                return (k, "ring")
        return None

    def some_facts(self, draw, most):
        """Any facts: of one grove, or of none, some of them told twice."""
        found = []
        table = draw.choice(self.tables) if self.tables and draw.random() < 0.7 else None
        for _ in range(draw.randrange(most + 1)):
            if not self.places or not self.bag.names():
                return found
            place = draw.choice(self.places)
            fitting = self.fitting(place)
            if table and draw.random() < 0.85:
                found.append((place, table[place]))
            elif fitting and draw.random() < 0.85:
                found.append((place, draw.choice(fitting)))
            else:
                found.append((place, draw.choice(self.bag.names())))
            if draw.random() < 0.1:
                found.append(draw.choice(found))
        return found


def ring_bag():
    """Joints with branches for one another, so that facts can lead round."""
    book = Book([("b", "blue", ("blue",)), ("t", "blue", ("blue", "blue")), ("z", "blue", ())])
    return Bag(book, [("a", "b"), ("b", "b"), ("c", "t"), ("d", "b"), ("y", "z"), ("z", "z")])


def mixed_bag():
    return Bag(Book(MIXED_BOOK), [("a1", "a"), ("z1", "z"), ("b1", "b"), ("r1", "r"), ("r2", "r")])


KNOWN = []


def truths():
    """Bags and roots with all their groves; they are looked through once."""
    if not KNOWN:
        KNOWN.append(Truth(ring_bag(), ["blue"]))
        KNOWN.append(Truth(mixed_bag(), ["red", "blue"]))
        # One without groves.
        KNOWN.append(Truth(mixed_bag(), ["red"]))
        for country in countries()[:4]:
            grove = list(country.groves.values())[0]
            KNOWN.append(Truth(grove.bag(), grove.roots()))
    return KNOWN


def random_truths(draw, many, most=5):
    return [Truth(*balanced_bag(draw, draw.randrange(1, most + 1))) for _ in range(many)]


def no_facts(place, name):
    """Values of every kind that are no fact, though the place and the name make one; the place is that of a joint."""
    found = [(value, name) for value in no_places(place[0])]
    found += [(place, value) for value in anything() + ["root", "nobody", ("p",), [name], (name,), {name: 1}]]
    found += [[place, name], (place,), (name, place), (place, name, 0), ((place, name),), [(place, name)]]
    found += [(list(place), name), (place[0], place[1], name), (place[:1], name), place]
    return found + anything()
