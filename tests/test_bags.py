"""Bags and places."""

import unittest

from bushcoins.bags import Bag, colour_of, places_of
from bushcoins.books import Book
from bushcoins.errors import BadBag, UnknownName
from tests.samples import (
    JOINTS, ROOTS, SHAPES, WIDE_JOINTS, WIDE_ROOTS, Case, anything, no_names, no_places, sample_bag, sample_book,
    sample_grove, wide_bag, wide_book,
)

# Pairs of what is passed as joints and the path of its first wrong part.
WRONG = [
    # no list
    (None, ()),
    ("", ()),
    ("pa", ()),
    (0, ()),
    (False, ()),
    ({}, ()),
    ({"p": "a"}, ()),
    # no tuple with two members
    ([None], (0,)),
    (["pa"], (0,)),
    ([["p", "a"]], (0,)),
    ([()], (0,)),
    ([("p",)], (0,)),
    ([("p", "a", "a")], (0,)),
    ([{"p": 1, "a": 2}], (0,)),
    ([("p", "a"), 1], (1,)),
    # the name
    ([("", "a")], (0, 0)),
    ([("P", "a")], (0, 0)),
    ([("0p", "a")], (0, 0)),
    ([("abcdefghijklm", "a")], (0, 0)),
    ([("root", "a")], (0, 0)),
    ([(None, "a")], (0, 0)),
    ([(["p"], "a")], (0, 0)),
    ([({}, "a")], (0, 0)),
    ([(("p",), "a")], (0, 0)),
    ([("p", "a"), ("p", "b")], (1, 0)),
    ([("p", "a"), ("q", "b"), ("p", "a")], (2, 0)),
    ([("p", "a"), ("q", "b"), ("q", "a")], (2, 0)),
    ([("p", "a"), ("root", "b")], (1, 0)),
    # the word
    ([("p", "red")], (0, 1)),
    ([("p", "c")], (0, 1)),
    ([("p", "A")], (0, 1)),
    ([("p", "")], (0, 1)),
    ([("p", None)], (0, 1)),
    ([("p", ["a"])], (0, 1)),
    ([("p", ("a",))], (0, 1)),
    ([("p", {})], (0, 1)),
    ([("p", 0)], (0, 1)),
    ([("p", ("a", "red", ("blue", "blue")))], (0, 1)),
    ([("p", "a"), ("q", "p")], (1, 1)),
    # two wrong parts at once: the first one in order
    ([("P", "c")], (0, 0)),
    ([("p", "c"), None], (0, 1)),
    ([("p", "c"), ("p", "a")], (0, 1)),
    ([None, ("root", "a")], (0,)),
    ([("p", "a"), ("p", "c"), ("root", "a")], (1, 0)),
    ([("p", "a"), ("q", "c"), ("p", "a")], (1, 1)),
    ([("root", "c"), ("p",)], (0, 0)),
]


class TestWrongBags(Case):
    def test_the_first_wrong_part(self):
        for joints, path in WRONG:
            with self.subTest(joints=joints):
                self.assert_path(BadBag, path, Bag, sample_book(), joints)

    def test_the_same_in_a_tuple(self):
        for joints, path in WRONG:
            if isinstance(joints, list):
                self.assert_path(BadBag, path, Bag, sample_book(), tuple(joints))

    def test_anything(self):
        for value in anything():
            if isinstance(value, (list, tuple)):
                if len(value) == 0:
                    self.assertEqual(Bag(sample_book(), value).joints(), [])
                else:
                    self.assertRaises(BadBag, Bag, sample_book(), value)
            else:
                self.assert_path(BadBag, (), Bag, sample_book(), value)

    def test_anything_in_each_part(self):
        for value in anything():
            if not isinstance(value, tuple) or len(value) != 2:
                self.assert_path(BadBag, (0,), Bag, sample_book(), [value])
            self.assert_path(BadBag, (0, 0), Bag, sample_book(), [(value, "a")])
            self.assert_path(BadBag, (0, 1), Bag, sample_book(), [("p", value)])

    def test_no_joint_is_of_an_empty_book(self):
        self.assert_path(BadBag, (0, 1), Bag, Book([]), [("p", "a")])
        self.assertEqual(Bag(Book([]), []).joints(), [])


class TestBags(Case):
    def test_what_a_bag_tells(self):
        for joints in (list(JOINTS), JOINTS):
            bag = Bag(sample_book(), joints)
            self.assertEqual(bag.book(), sample_book())
            self.assertEqual(bag.joints(), list(JOINTS))
            self.assertEqual(bag.names(), ["p", "q", "r", "y", "z"])
            self.assertEqual(bag.stock(), (1, 2, 2))
            self.assertIs(type(bag.stock()), tuple)

    def test_the_book_is_the_book(self):
        book = sample_book()
        self.assertIsInstance(Bag(book, JOINTS).book(), Book)
        self.assertEqual(Bag(book, []).book(), book)

    def test_the_order_is_that_of_the_joints(self):
        joints = [("z", "z"), ("b", "b"), ("m", "a"), ("a", "z")]
        bag = Bag(sample_book(), joints)
        self.assertEqual(bag.names(), ["z", "b", "m", "a"])
        self.assertEqual(bag.joints(), joints)
        self.assertEqual(bag.stock(), (1, 1, 2))

    def test_word_stem_branches(self):
        bag = sample_bag()
        shapes = {shape[0]: shape for shape in SHAPES}
        for name, word in JOINTS:
            self.assertEqual(bag.word(name), word)
            self.assertEqual(bag.stem(name), shapes[word][1])
            self.assertEqual(bag.branches(name), shapes[word][2])
            self.assertIs(type(bag.branches(name)), tuple)

    def test_a_name_that_is_the_word_of_another_shape(self):
        bag = Bag(sample_book(), [("a", "z"), ("z", "a"), ("b", "b"), ("joint", "z")])
        self.assertEqual([bag.word(name) for name in ("a", "z", "b", "joint")], ["z", "a", "b", "z"])
        self.assertEqual(bag.branches("z"), ("blue", "blue"))
        self.assertEqual(bag.stem("a"), "blue")

    def test_unknown_names(self):
        bag = sample_bag()
        for value in no_names() + ["a", "b", "red"]:
            self.assert_unknown(UnknownName, value, bag.word, value)
            self.assert_unknown(UnknownName, value, bag.stem, value)
            self.assert_unknown(UnknownName, value, bag.branches, value)

    def test_stock(self):
        self.assertEqual(Bag(sample_book(), []).stock(), (0, 0, 0))
        self.assertEqual(Bag(Book([]), []).stock(), ())
        self.assertEqual(Bag(sample_book(), [("p", "z"), ("q", "z")]).stock(), (0, 0, 2))
        self.assertEqual(wide_bag().stock(), (2, 1, 6, 2))

    def test_lists_are_new(self):
        bag = sample_bag()
        self.assert_new(bag.joints)
        self.assert_new(bag.names)

    def test_nothing_passed_is_kept_or_modified(self):
        joints = list(JOINTS)
        bag = Bag(sample_book(), joints)
        self.assertEqual(joints, list(JOINTS))
        joints.append(("more", "z"))
        joints[0] = None
        self.assertEqual(bag.joints(), list(JOINTS))
        self.assertEqual(bag.stock(), (1, 2, 2))

    def test_the_limits(self):
        bag = Bag(sample_book(), [(f"n{k}", "b") for k in range(80)])
        self.assertEqual(len(bag.names()), 80)
        self.assertEqual(bag.stock(), (0, 80, 0))


class TestEquality(Case):
    def test_equal_bags(self):
        self.assert_equal_objects(sample_bag(), sample_bag())
        self.assert_equal_objects(Bag(sample_book(), list(JOINTS)), Bag(sample_book(), JOINTS))
        self.assert_equal_objects(Bag(Book([]), []), Bag(Book(()), ()))

    def test_bags_that_differ_in_one_part(self):
        bag = sample_bag()
        others = [
            JOINTS[:-1],
            JOINTS + (("x", "z"),),
            (JOINTS[1], JOINTS[0]) + JOINTS[2:],
            (("x", "a"),) + JOINTS[1:],
            (("p", "b"),) + JOINTS[1:],
            (),
        ]
        for joints in others:
            self.assert_unequal_objects(bag, Bag(sample_book(), joints))

    def test_bags_of_unlike_books(self):
        for shapes in (SHAPES + (("more", "red", ()),), (SHAPES[1], SHAPES[0], SHAPES[2])):
            self.assert_unequal_objects(sample_bag(), Bag(Book(shapes), JOINTS))
        self.assert_unequal_objects(Bag(sample_book(), []), Bag(Book([]), []))

    def test_other_values(self):
        for value in anything() + [list(JOINTS), JOINTS]:
            if not isinstance(value, Bag):
                self.assert_unequal_objects(sample_bag(), value)
        self.assert_unequal_objects(Bag(sample_book(), []), sample_book())
        self.assert_unequal_objects(sample_bag(), sample_grove())


class TestPlaces(Case):
    def test_the_places_in_order(self):
        self.assertEqual(
            places_of(sample_bag(), ["red"]), [("root", 0), ("p", 0), ("p", 1), ("q", 0), ("r", 0)]
        )
        self.assertEqual(
            places_of(wide_bag(), WIDE_ROOTS),
            [("root", 0), ("root", 1), ("root", 2), ("root", 3), ("t", 0), ("t", 1), ("t", 2), ("w", 0), ("u", 0),
             ("u", 1), ("u", 2)],
        )

    def test_the_order_is_that_of_the_bag(self):
        bag = Bag(sample_book(), [("z", "b"), ("m", "z"), ("b", "a"), ("a", "b")])
        self.assertEqual(places_of(bag, ()), [("z", 0), ("b", 0), ("b", 1), ("a", 0)])

    def test_no_roots_and_no_branches(self):
        self.assertEqual(places_of(sample_bag(), []), [("p", 0), ("p", 1), ("q", 0), ("r", 0)])
        leaves = Bag(sample_book(), [("y", "z"), ("z", "z")])
        self.assertEqual(places_of(leaves, []), [])
        self.assertEqual(places_of(leaves, ["blue", "blue"]), [("root", 0), ("root", 1)])
        self.assertEqual(places_of(Bag(Book([]), []), []), [])

    def test_they_are_plain_pairs(self):
        for place in places_of(wide_bag(), WIDE_ROOTS):
            self.assertIs(type(place), tuple)
            self.assertEqual([type(member) for member in place], [str, int])

    def test_lists_and_tuples_of_roots(self):
        for roots in (["red", "x"], ("red", "x")):
            self.assertEqual(places_of(sample_bag(), roots)[:3], [("root", 0), ("root", 1), ("p", 0)])
            self.assertEqual(colour_of(sample_bag(), roots, ("root", 1)), "x")

    def test_lists_are_new_and_roots_stay(self):
        bag = sample_bag()
        roots = ["red"]
        self.assert_new(lambda: places_of(bag, roots))
        self.assertEqual(roots, ["red"])

    def test_colours(self):
        bag = Bag(Book([("a", "x", ("c0", "c1", "c0")), ("b", "y", ())]), [("p", "b"), ("q", "a")])
        roots = ["r0", "r1"]
        told = [(place, colour_of(bag, roots, place)) for place in places_of(bag, roots)]
        self.assertEqual(
            told,
            [(("root", 0), "r0"), (("root", 1), "r1"), (("q", 0), "c0"), (("q", 1), "c1"), (("q", 2), "c0")],
        )

    def test_values_that_are_no_places(self):
        bag = sample_bag()
        for value in no_places("q") + [("p", 2), ("y", 0), ("z", 0), ("z", -1), ("a", 0)]:
            self.assert_unknown(UnknownName, value, colour_of, bag, ["red"], value)

    def test_no_root_is_a_place_without_roots(self):
        place = ("root", 0)
        self.assert_unknown(UnknownName, place, colour_of, sample_bag(), [], place)
        place = ("root", 4)
        self.assert_unknown(UnknownName, place, colour_of, wide_bag(), WIDE_ROOTS, place)

    def test_wide_book_is_as_told(self):
        self.assertEqual(wide_book().words(), ["tree", "twig", "bud", "knob"])
        self.assertEqual([name for name, _ in WIDE_JOINTS], wide_bag().names())
        self.assertEqual(ROOTS, ("red",))

    def test_many_roots(self):
        roots = [f"c{k}" for k in range(60)]
        self.assertEqual(places_of(Bag(Book([]), []), roots), [("root", k) for k in range(60)])
        self.assertEqual(colour_of(Bag(Book([]), []), roots, ("root", 59)), "c59")


if __name__ == "__main__":
    unittest.main()
