"""Values and checks that several tests use."""

import random
import unittest

from bushcoins.bags import Bag
from bushcoins.books import Book
from bushcoins.groves import Grove

SHAPES = (("a", "red", ("blue", "blue")), ("b", "blue", ("blue",)), ("z", "blue", ()))
JOINTS = (("p", "a"), ("q", "b"), ("r", "b"), ("y", "z"), ("z", "z"))
ROOTS = ("red",)
BUSHES = (("p", ("q", ("r", ("z",))), ("y",)),)
TABLE = [
    (("root", 0), "p"),
    (("p", 0), "q"),
    (("p", 1), "y"),
    (("q", 0), "r"),
    (("r", 0), "z"),
]


def sample_book():
    return Book(SHAPES)


def sample_bag():
    return Bag(sample_book(), JOINTS)


def sample_grove():
    return Grove(sample_bag(), ROOTS, BUSHES)


# Several roots, several levels, a joint without branches at a root, names that are words of texts.
WIDE_SHAPES = (
    ("tree", "wood", ("leaf", "wood", "leaf")),
    ("twig", "wood", ("leaf",)),
    ("bud", "leaf", ()),
    ("knob", "wood", ()),
)
WIDE_JOINTS = (
    ("k", "knob"),
    ("t", "tree"),
    ("w", "twig"),
    ("l1", "bud"),
    ("l2", "bud"),
    ("u", "tree"),
    ("l3", "bud"),
    ("l4", "bud"),
    ("l5", "bud"),
    ("m", "knob"),
    ("l6", "bud"),
)
WIDE_ROOTS = ("wood", "leaf", "wood", "wood")
WIDE_BUSHES = (
    ("t", ("l2",), ("u", ("l5",), ("w", ("l1",)), ("l3",)), ("l4",)),
    ("l6",),
    ("k",),
    ("m",),
)


def wide_book():
    return Book(WIDE_SHAPES)


def wide_bag():
    return Bag(wide_book(), WIDE_JOINTS)


def wide_grove():
    return Grove(wide_bag(), WIDE_ROOTS, WIDE_BUSHES)


def nested(depth, kind):
    """A value nested so deep, with integers of 40 digits."""
    value = 10 ** 39
    for _ in range(depth):
        if kind == "list":
            value = [value, 10 ** 39 + 1]
        elif kind == "tuple":
            value = (value, 10 ** 39 + 1)
        else:
            value = {"value": value, "more": 10 ** 39 + 1}
    return value


def anything():
    """Values of every kind that may be passed where anything may be."""
    return [
        None, True, False, 0, 1, -1, 2, 10 ** 39, -(10 ** 39),
        "", " ", "A", "x y", "a\n", "\t", "0", "a-b", "abcdefghijklm",
        [], (), {}, [1], ["a"], ("a",), {"a": 1}, [[]], ((),), [{}], ({},),
        (None, None), (None, 0), (0, 0), ("", 0), ([], 0), ({}, 0), ((), 0), (True, True),
        ("a", "b", "c"), ("red", "red", ("red",)), [("a", "red", ())],
        nested(70, "list"), nested(70, "tuple"), nested(70, "dict"),
        sample_book(), sample_bag(), sample_grove(), [sample_book()], (sample_bag(), 0), ("p", sample_grove()),
    ]


def no_places(name):
    """Values of every kind that are no place, though a joint with this name has one branch and there is one root."""
    return anything() + [
        (name, 1), (name, 2), (name, -1), (name, True), (name, False), (name, None), (name, "0"), (name, [0]),
        (name, (0,)), (name, 10 ** 39), (name, {}), [name, 0], (name,), (name, 0, 0), ((name, 0),), [(name, 0)],
        ("root", 1), ("root", -1), ("root", False), ("root", True), ("root", None), ["root", 0], ("root",),
        ("root", 0, 0), "root", name, ("nobody", 0), ([name], 0), ((name,), 0), (0, name),
    ]


def no_names():
    """Values of every kind that are no name of a joint."""
    return anything() + ["root", "nobody", ["p"], ("p",), {"p": 1}, ("p", 0), "P", "p ", "p\n"]


class Case(unittest.TestCase):
    """A test case with checks of errors."""

    def assert_path(self, error, path, call, *told):
        """The call raises just this error with just this path, a tuple of plain numbers."""
        with self.assertRaises(error) as caught:
            call(*told)
        self.assertIs(type(caught.exception), error)
        self.assertIs(type(caught.exception.path), tuple)
        self.assertEqual(caught.exception.path, path)
        for number in caught.exception.path:
            self.assertIs(type(number), int)

    def assert_place(self, error, place, call, *told):
        """The call raises just this error with just this place."""
        with self.assertRaises(error) as caught:
            call(*told)
        self.assertIs(type(caught.exception), error)
        self.assertIs(type(caught.exception.place), int)
        self.assertEqual(caught.exception.place, place)

    def assert_unknown(self, error, name, call, *told):
        """The call raises just this error, with just this object as its name."""
        with self.assertRaises(error) as caught:
            call(*told)
        self.assertIs(type(caught.exception), error)
        self.assertIs(caught.exception.name, name)

    def assert_new(self, call):
        """Each call returns a new list, and changing one changes nothing that is asked later."""
        first = call()
        self.assertIs(type(first), list)
        known = [list(row) if type(row) is list else row for row in first]
        second = call()
        self.assertEqual(second, known)
        self.assertIsNot(first, second)
        for row in first:
            if type(row) is list:
                row.append("spoilt")
        first.append("spoilt")
        first.reverse()
        del first[1:]
        self.assertEqual(call(), known)
        self.assertEqual(second, known)

    def assert_equal_objects(self, one, other):
        self.assertIs(one == other, True)
        self.assertIs(other == one, True)
        self.assertIs(one != other, False)

    def assert_unequal_objects(self, one, other):
        self.assertIs(one == other, False)
        self.assertIs(other == one, False)
        self.assertIs(one != other, True)


def random_plain(draw, book, roots, most):
    """Any plain grove of the roots, of about so many joints at most; draw is a random.Random."""
    shapes = book.shapes()
    left = [most]

    def bush(colour):
        fitting = [shape for shape in shapes if shape[1] == colour]
        short = [shape for shape in fitting if not shape[2]]
        shape = draw.choice(short if left[0] <= 0 and short else fitting)
        left[0] -= 1
        return (shape[0],) + tuple(bush(branch) for branch in shape[2])

    return tuple(bush(root) for root in roots)


def random_source(seed):
    return random.Random(seed)
