"""Small bags of which all groves and all deeds are known, large groves far apart, and spoilt deeds."""

from bushcoins.bags import Bag
from bushcoins.books import Book
from bushcoins.groves import Grove
from bushcoins.plain import named
from tests.oracles import Land, Surgery
from tests.samples import anything, random_plain, sample_grove

PLAIN_BOOK = (("t", "c", ("c", "c")), ("b", "c", ("c",)), ("z", "c", ()))
MIXED_BOOK = (
    ("a", "red", ("blue", "red")), ("b", "blue", ("red",)), ("r", "red", ()), ("z", "blue", ()),
)


def chain_grove(names, end="z"):
    """A bush of joints with one branch each, in this order; the order of the bag is that of the alphabet."""
    bush = (end,)
    for name in reversed(names):
        bush = (name, bush)
    joints = [(name, "b") for name in sorted(names)] + [(end, "z")]
    return Grove(Bag(Book(PLAIN_BOOK), joints), ("c",), (bush,))


def forked_grove():
    bag = Bag(Book(PLAIN_BOOK), [("y", "z"), ("b", "b"), ("t", "t"), ("d", "b"), ("x", "z")])
    return Grove(bag, ("c",), (("t", ("b", ("y",)), ("d", ("x",))),))


def mixed_grove():
    """Two roots of two colours; a joint of each colour with branches of the other one."""
    joints = [("a1", "a"), ("z1", "z"), ("b1", "b"), ("r1", "r"), ("a2", "a"), ("z2", "z"), ("r2", "r")]
    bushes = (("a1", ("b1", ("a2", ("z1",), ("r1",))), ("r2",)), ("z2",))
    return Grove(Bag(Book(MIXED_BOOK), joints), ("red", "blue"), bushes)


def twin_roots_grove():
    """Three roots of one colour."""
    bag = Bag(Book(PLAIN_BOOK), [("b", "b"), ("x", "z"), ("d", "b"), ("y", "z"), ("z", "z")])
    return Grove(bag, ("c", "c", "c"), (("b", ("x",)), ("y",), ("d", ("z",))))


class Country:
    """A land, and its groves as objects of the package."""

    def __init__(self, grove):
        self.land = Land(grove)
        self.groves = {bushes: Grove(grove.bag(), grove.roots(), bushes) for bushes in self.land.deeds}
        self.surgeries = {
            bushes: Surgery(grove.bag(), grove.roots(), bushes) for bushes in self.land.deeds
        }

    def pairs(self, step=1):
        """Pairs of the bushes of two groves, every so manieth of all."""
        return [(one, other) for one in self.land.deeds for other in self.land.deeds][::step]


KNOWN = []


def countries():
    """The countries of all small bags here; they are looked through once."""
    if not KNOWN:
        for grove in (
            sample_grove(), forked_grove(), mixed_grove(), twin_roots_grove(), chain_grove(["d", "a", "c", "b"]),
        ):
            KNOWN.append(Country(grove))
    return KNOWN


def large_grove(draw, most=60):
    """A grove of about so many joints, with several roots and colours."""
    shapes = MIXED_BOOK + (("k", "red", ("red", "blue", "red")), ("l", "blue", ("blue",)))
    book = Book(shapes)
    roots = ("red", "blue", "red")
    while True:
        plain = random_plain(draw, book, roots, most // 2)
        grove = named(book, roots, plain)
        if most // 2 <= len(grove.walk()) <= most:
            return grove


def any_deed(draw, grove):
    """Any deed that can be done at a grove, of one coin or of two, or None if none was met."""
    surgery = Surgery(grove.bag(), grove.roots(), grove.bushes())
    for _ in range(400):
        if draw.random() < 0.3:
            deed = ("hang", draw.choice(surgery.places), draw.choice(surgery.places))
        else:
            low = [draw.choice(surgery.places), draw.choice(surgery.places)]
            high = [draw.choice(grove.above(place) + [place]) for place in low]
            deed = ("stretch", high[0], low[0], high[1], low[1])
        if surgery.can(deed):
            return deed
    return None


def spoilt(deed):
    """Values of every kind that are no deed, though they look like this one."""
    found = [list(deed), deed[:-1], deed + (deed[-1],), deed[1:], (deed,), [deed], deed[:1], (deed[0].upper(),) + deed[1:]]
    found += [(deed[0] + " ",) + deed[1:], ("hang",), ("stretch",), ("hang", deed[1]), "hang", "stretch"]
    found += [("stretch" if deed[0] == "hang" else "hang",) + deed[1:]]
    for k in range(len(deed)):
        for value in anything():
            if value != deed[k]:
                found.append(deed[:k] + (value,) + deed[k + 1:])
    for k in range(1, len(deed)):
        name, number = deed[k]
        for value in (
            [name, number], (name, bool(number)), (name, None), (name, str(number)), (name, -1), (name, number - 10),
            (name, number + 40), (name,), (name, number, 0), ([name], number), ({}, number), (name, [number]),
            (name, {}), ("nobody", 0), ("root", -1), ("root", False), name,
        ):
            found.append(deed[:k] + (value,) + deed[k + 1:])
    return found + anything()


def unlike_groves():
    """Pairs of groves of unlike bags, roots or books, both ways round."""
    book = Book(PLAIN_BOOK)
    wider = Book(PLAIN_BOOK + (("u", "c", ()),))
    joints = [("b", "b"), ("x", "z")]
    bushes = (("b", ("x",)),)
    first = Grove(Bag(book, joints), ("c",), bushes)
    pairs = [
        (first, Grove(Bag(wider, joints), ("c",), bushes)),
        (first, Grove(Bag(book, joints[::-1]), ("c",), bushes)),
        (first, Grove(Bag(book, [("b", "b"), ("y", "z")]), ("c",), (("b", ("y",)),))),
        (first, Grove(Bag(book, [("b", "b"), ("x", "z"), ("y", "z")]), ("c", "c"), bushes + (("y",),))),
        (sample_grove(), first),
    ]
    two = Book([("r", "red", ()), ("z", "blue", ())])
    both = Bag(two, [("r", "r"), ("z", "z")])
    pairs.append((Grove(both, ("red", "blue"), (("r",), ("z",))), Grove(both, ("blue", "red"), (("z",), ("r",)))))
    return pairs + [(other, one) for one, other in pairs]
