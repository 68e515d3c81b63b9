"""All groves and all plain groves of small bags and stocks, by putting every joint at every place."""

from fractions import Fraction

from bushcoins.bags import Bag
from bushcoins.books import Book
from tests.lands import MIXED_BOOK, PLAIN_BOOK
from tests.samples import sample_book, wide_book
from tests.searches import balanced_bag, random_bag


def put_together(kinds, many, roots):
    """All tuples of bushes at roots with so many of each kind; kinds: label to (stem, branches)."""
    def fill(colours, left):
        if not colours:
            yield (), left
            return
        for label, (stem, branches) in kinds.items():
            if stem == colours[0] and left[label]:
                for parts, behind in fill(branches, {**left, label: left[label] - 1}):
                    for others, rest in fill(colours[1:], behind):
                        yield ((label,) + parts,) + others, rest

    return [bushes for bushes, left in fill(tuple(roots), dict(many)) if not any(left.values())]


def row_of(bushes):
    """The labels in the order of a walk."""
    found = []
    for bush in bushes:
        found += [bush[0]] + row_of(bush[1:])
    return found


def in_order(labels, groves):
    """Groves ordered by their rows."""
    return sorted(groves, key=lambda bushes: [labels.index(label) for label in row_of(bushes)])


def every_grove(bag, roots):
    """The bushes of all groves of a bag and roots, in the order of S7.4."""
    kinds = {name: (bag.stem(name), bag.branches(name)) for name in bag.names()}
    return in_order(bag.names(), put_together(kinds, {name: 1 for name in kinds}, roots))


def every_plain(book, stock, roots):
    """All plain groves with a stock and roots, in the order of S7.4."""
    kinds = {word: (stem, branches) for word, stem, branches in book.shapes()}
    return in_order(book.words(), put_together(kinds, dict(zip(kinds, stock)), roots))


def mean(numbers):
    """The mean of numbers as a fraction of the package, or None if there are none."""
    if not numbers:
        return None
    told = Fraction(sum(numbers), len(numbers))
    return (told.numerator, told.denominator)


def some_bags(draw, many, most=6):
    """Random bags with roots: most of them balanced, some not; groves of them can be gone through."""
    found = []
    for k in range(many):
        if k % 4:
            found.append(balanced_bag(draw, draw.randrange(most + 1)))
        else:
            bag = random_bag(draw, draw.randrange(most))
            found.append((bag, [draw.choice(("blue", "green", "red", "zz")) for _ in range(draw.randrange(4))]))
    return found


# Books, stocks and roots with several plain groves each.
PLAIN_KINDS = (
    (sample_book(), (1, 2, 2), ("red",)),
    (sample_book(), (2, 2, 4), ("red", "red")),
    (sample_book(), (0, 2, 2), ("blue", "blue")),
    (Book(PLAIN_BOOK), (2, 2, 3), ("c",)),
    (Book(PLAIN_BOOK), (1, 3, 3), ("c", "c")),
    (Book(MIXED_BOOK), (2, 1, 2, 2), ("red", "blue")),
    (Book(MIXED_BOOK), (2, 2, 4, 1), ("red", "red", "blue")),
    (wide_book(), (2, 1, 5, 2), ("wood", "wood", "wood")),
    (wide_book(), (1, 1, 4, 1), ("leaf", "wood", "wood")),
)
# Kinds without a plain grove: unbalanced, or with joints that can stand among themselves alone.
NO_KINDS = (
    (sample_book(), (1, 2, 1), ("red",)),
    (sample_book(), (1, 2, 2), ("red", "zz")),
    (sample_book(), (1, 2, 2), ()),
    (Book([("b", "blue", ("blue",)), ("r", "red", ())]), (1, 1), ("red",)),
    (Book([("b", "blue", ("blue",))]), (2,), ()),
)


def bag_of(book, stock):
    """A bag with a stock, its joints called by the words and numbers."""
    return Bag(book, [(f"{word}{k}", word) for word, many in zip(book.words(), stock) for k in range(many)])
