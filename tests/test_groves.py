"""Groves."""

import unittest

from bushcoins.bags import Bag, places_of
from bushcoins.books import Book
from bushcoins.errors import BadGrove, UnknownName
from bushcoins.groves import Grove
from tests import oracles
from tests.samples import (
    BUSHES, JOINTS, ROOTS, SHAPES, TABLE, WIDE_BUSHES, WIDE_JOINTS, WIDE_ROOTS, Case, anything, nested, no_names,
    no_places, random_plain, random_source, sample_bag, sample_book, sample_grove, wide_bag, wide_book, wide_grove,
)

Y = ("y",)
Z = ("z",)

# Triples of roots, bushes and the path of their first wrong part, for the bag of the samples.
WRONG = [
    # roots
    (None, BUSHES, (0,)),
    ("red", BUSHES, (0,)),
    ({"red": 1}, BUSHES, (0,)),
    (1, BUSHES, (0,)),
    ([None], BUSHES, (0, 0)),
    (["Red"], BUSHES, (0, 0)),
    ([("red",)], BUSHES, (0, 0)),
    ([["red"]], BUSHES, (0, 0)),
    (["red", ""], BUSHES, (0, 1)),
    (["red", "blue", "x y", 1], BUSHES, (0, 2)),
    # bushes
    (ROOTS, None, (1,)),
    (ROOTS, "p", (1,)),
    (ROOTS, {0: BUSHES[0]}, (1,)),
    (ROOTS, 1, (1,)),
    (ROOTS, [], (1,)),
    (ROOTS, [BUSHES[0], Y], (1,)),
    ((), BUSHES, (1,)),
    (("red", "red"), BUSHES, (1,)),
    # a bush of its own
    (ROOTS, [None], (1, 0)),
    (ROOTS, ["p"], (1, 0)),
    (ROOTS, [()], (1, 0)),
    (ROOTS, [[]], (1, 0)),
    (ROOTS, [["p", ("q", ("r", Z)), Y]], (1, 0)),
    (ROOTS, [{"p": 1}], (1, 0)),
    (ROOTS, [("p", "q", Y)], (1, 0, 1)),
    (ROOTS, [("p", ["q", ("r", Z)], Y)], (1, 0, 1)),
    (ROOTS, [("p", ("q", ("r", ())), Y)], (1, 0, 1, 1, 1)),
    (ROOTS, [("p", ("q", ("r", Z)), None)], (1, 0, 2)),
    # the first member: no name, one that stood, another colour
    (ROOTS, [(None,)], (1, 0, 0)),
    (ROOTS, [(["p"], ("q", ("r", Z)), Y)], (1, 0, 0)),
    (ROOTS, [({}, 1)], (1, 0, 0)),
    (ROOTS, [("root", 0)], (1, 0, 0)),
    (ROOTS, [("a", ("q", ("r", Z)), Y)], (1, 0, 0)),
    (ROOTS, [("nobody",)], (1, 0, 0)),
    (ROOTS, [("P", ("q", ("r", Z)), Y)], (1, 0, 0)),
    (ROOTS, [("q", ("r", Z))], (1, 0, 0)),
    (("blue",), BUSHES, (1, 0, 0)),
    (("green",), BUSHES, (1, 0, 0)),
    (ROOTS, [("p", ("q", ("q", Z)), Y)], (1, 0, 1, 1, 0)),
    (ROOTS, [("p", ("q", ("r", Z)), Z)], (1, 0, 2, 0)),
    (ROOTS, [("p", ("p", Y, Z), Y)], (1, 0, 1, 0)),
    (("red", "blue"), [BUSHES[0], Y], (1, 1, 0)),
    # the number of members
    (ROOTS, [("p",)], (1, 0)),
    (ROOTS, [("p", ("q", ("r", Z)))], (1, 0)),
    (ROOTS, [("p", ("q", ("r", Z)), Y, Y)], (1, 0)),
    (ROOTS, [("p", ("q",), Y)], (1, 0, 1)),
    (ROOTS, [("p", ("q", ("r", Z), Z), Y)], (1, 0, 1)),
    (ROOTS, [("p", ("q", ("r", ("z", Y))), Y)], (1, 0, 1, 1, 1)),
    # joints that stand nowhere
    ((), (), ()),
    (ROOTS, [("p", Y, Z)], ()),
    (ROOTS, [("p", ("q", Z), Y)], ()),
    # two wrong parts at once: the first one in order
    (["Red"], None, (0, 0)),
    (None, None, (0,)),
    (["red", "Red"], [()], (0, 1)),
    (ROOTS, [("p", (None,))], (1, 0)),
    (ROOTS, [("q", None, None)], (1, 0, 0)),
    (ROOTS, [("p", ("q", None), None)], (1, 0, 1, 1)),
    (ROOTS, [("p", ("q", ("r", Z)), ("q", Y, Y))], (1, 0, 2, 0)),
    (ROOTS, [("p", ("p", ()), ())], (1, 0, 1, 0)),
    (ROOTS, [("p", Y, Y)], (1, 0, 2, 0)),
    (ROOTS, [("p", Y, ("z", 1))], (1, 0, 2)),
    (("red", "red"), [("p", Y, Z, Z), None], (1, 0)),
    (("red", "red"), [("p", Y, Z), None], (1, 1)),
]


class TestWrongGroves(Case):
    def test_the_first_wrong_part(self):
        for roots, bushes, path in WRONG:
            with self.subTest(roots=roots, bushes=bushes):
                self.assert_path(BadGrove, path, Grove, sample_bag(), roots, bushes)

    def test_lists_and_tuples_count_alike(self):
        for roots, bushes, path in WRONG:
            for kind in (list, tuple):
                if isinstance(roots, (list, tuple)) and isinstance(bushes, (list, tuple)):
                    self.assert_path(BadGrove, path, Grove, sample_bag(), kind(roots), kind(bushes))

    def test_anything_as_roots(self):
        for value in anything():
            if not isinstance(value, (list, tuple)):
                self.assert_path(BadGrove, (0,), Grove, sample_bag(), value, BUSHES)
            self.assert_path(BadGrove, (0, 0), Grove, sample_bag(), [value], BUSHES)
            self.assert_path(BadGrove, (0, 1), Grove, sample_bag(), ("red", value, "Red"), BUSHES)

    def test_anything_as_bushes(self):
        for value in anything():
            if not isinstance(value, (list, tuple)) or len(value) != 1:
                self.assert_path(BadGrove, (1,), Grove, sample_bag(), ROOTS, value)
            if not isinstance(value, tuple) or value == ():
                self.assert_path(BadGrove, (1, 0), Grove, sample_bag(), ROOTS, [value])
                self.assert_path(BadGrove, (1, 0, 2), Grove, sample_bag(), ROOTS, [("p", ("q", ("r", Z)), value)])
            self.assert_path(BadGrove, (1, 0, 0), Grove, sample_bag(), ROOTS, [(value,)])
            self.assert_path(BadGrove, (1, 0, 1, 0), Grove, sample_bag(), ROOTS, [("p", (value, Z), Y)])

    def test_nested_values(self):
        for kind in ("list", "tuple", "dict"):
            value = nested(75, kind)
            self.assertRaises(BadGrove, Grove, sample_bag(), value, BUSHES)
            self.assertRaises(BadGrove, Grove, sample_bag(), ROOTS, [value])

    def test_against_the_words_of_the_document(self):
        draw = random_source(1)
        bag = wide_bag()
        kinds = oracles.kinds_of_bag(bag)
        for _ in range(600):
            bushes = self.spoilt(draw, WIDE_BUSHES, draw.randrange(1, 4))
            path = oracles.first_grove_path(kinds, WIDE_ROOTS, bushes, True)
            if path is None:
                self.assertEqual(Grove(bag, WIDE_ROOTS, bushes).bushes(), list(bushes))
            else:
                self.assert_path(BadGrove, path, Grove, bag, WIDE_ROOTS, bushes)

    def spoilt(self, draw, bushes, times):
        """The bushes with some parts exchanged, left out, doubled or put in."""
        for _ in range(times):
            bushes = self.spoilt_once(draw, bushes)
        return bushes

    def spoilt_once(self, draw, part):
        if type(part) is tuple and part and draw.random() < 0.75:
            k = draw.randrange(len(part))
            return part[:k] + (self.spoilt_once(draw, part[k]),) + part[k + 1:]
        if type(part) is tuple and draw.random() < 0.5:
            k = draw.randrange(len(part) + 1)
            return draw.choice([part[:k] + part[k + 1:], part[:k] + (("l1",),) + part[k:], list(part), part[::-1]])
        return draw.choice([("l1",), ("k",), "t", "k", "nobody", None, (), ("t", ("l1",), ("k",), ("l2",)), [("l1",)]])


class TestGroves(Case):
    def test_what_was_passed(self):
        for roots in (["red"], ("red",)):
            for bushes in (list(BUSHES), BUSHES):
                grove = Grove(sample_bag(), roots, bushes)
                self.assertEqual(grove.bag(), sample_bag())
                self.assertIs(type(grove.roots()), tuple)
                self.assertEqual(grove.roots(), ("red",))
                self.assertIs(type(grove.bushes()), list)
                self.assertEqual(grove.bushes(), list(BUSHES))

    def test_table(self):
        self.assertEqual(sample_grove().table(), TABLE)
        table = wide_grove().table()
        self.assertEqual([place for place, _ in table], places_of(wide_bag(), WIDE_ROOTS))
        self.assertEqual(dict(table), oracles.table_of(WIDE_BUSHES))
        self.assertEqual({type(row) for row in table}, {tuple})

    def test_joint_and_place(self):
        for grove in (sample_grove(), wide_grove()):
            for place, name in oracles.table_of(grove.bushes()).items():
                self.assertEqual(grove.joint(place), name)
                self.assertEqual(grove.place(name), place)
                self.assertIs(type(grove.place(name)), tuple)

    def test_names(self):
        grove = sample_grove()
        self.assertEqual(grove.names(("root", 0)), ["p", "q", "r", "z", "y"])
        self.assertEqual(grove.names(("p", 0)), ["q", "r", "z"])
        self.assertEqual(grove.names(("p", 1)), ["y"])
        self.assertEqual(grove.names(("r", 0)), ["z"])
        for place, names in oracles.hanging_of(WIDE_BUSHES).items():
            self.assertEqual(wide_grove().names(place), names)

    def test_walk(self):
        self.assertEqual(sample_grove().walk(), ["p", "q", "r", "z", "y"])
        self.assertEqual(wide_grove().walk(), ["t", "l2", "u", "l5", "w", "l1", "l3", "l4", "l6", "k", "m"])
        self.assertEqual(Grove(Bag(sample_book(), []), (), ()).walk(), [])

    def test_the_empty_grove(self):
        for bag in (Bag(sample_book(), []), Bag(Book([]), [])):
            grove = Grove(bag, [], [])
            self.assertEqual((grove.roots(), grove.bushes(), grove.table()), ((), [], []))
            place = ("root", 0)
            self.assert_unknown(UnknownName, place, grove.joint, place)
            self.assert_unknown(UnknownName, "p", grove.place, "p")

    def test_names_like_words_of_texts(self):
        book = Book([("root", "c", ("c",)), ("grove", "c", ())])
        grove = Grove(Bag(book, [("grove", "root"), ("plain", "grove")]), ["c"], [("grove", ("plain",))])
        self.assertEqual(grove.walk(), ["grove", "plain"])
        self.assertEqual(grove.place("plain"), ("grove", 0))

    def test_a_joint_may_be_called_as_a_shape(self):
        bag = Bag(sample_book(), [("a", "z"), ("z", "a"), ("b", "z")])
        grove = Grove(bag, ["red"], [("z", ("b",), ("a",))])
        self.assertEqual(grove.walk(), ["z", "b", "a"])

    def test_values_that_are_no_places(self):
        grove = sample_grove()
        for value in no_places("q"):
            self.assert_unknown(UnknownName, value, grove.joint, value)
            self.assert_unknown(UnknownName, value, grove.names, value)
            self.assert_unknown(UnknownName, value, grove.above, value)
            for other in [("p", 0), ("root", 0)]:
                self.assert_unknown(UnknownName, value, grove.is_above, value, other)
                self.assert_unknown(UnknownName, value, grove.is_above, other, value)
                self.assert_unknown(UnknownName, value, grove.is_apart, value, other)
                self.assert_unknown(UnknownName, value, grove.is_apart, other, value)

    def test_which_argument_is_refused_first(self):
        grove = sample_grove()
        for one in no_places("q"):
            for other in (None, ("q", 5), [], {}):
                self.assert_unknown(UnknownName, one, grove.is_above, one, other)
                self.assert_unknown(UnknownName, one, grove.is_apart, one, other)

    def test_values_that_are_no_names(self):
        grove = sample_grove()
        for value in no_names() + ["a", "red"]:
            self.assert_unknown(UnknownName, value, grove.place, value)

    def test_lists_are_new(self):
        grove = wide_grove()
        for call in (grove.bushes, grove.table, grove.walk):
            self.assert_new(call)
        for place in (("root", 0), ("u", 1), ("w", 0), ("root", 2)):
            self.assert_new(lambda place=place: grove.names(place))
            self.assert_new(lambda place=place: grove.above(place))

    def test_nothing_passed_is_kept_or_modified(self):
        roots = list(WIDE_ROOTS)
        bushes = list(WIDE_BUSHES)
        grove = Grove(wide_bag(), roots, bushes)
        self.assertEqual((roots, bushes), (list(WIDE_ROOTS), list(WIDE_BUSHES)))
        roots.append("more")
        bushes.reverse()
        self.assertEqual(grove.roots(), WIDE_ROOTS)
        self.assertEqual(grove.bushes(), list(WIDE_BUSHES))
        self.assertEqual(grove.joint(("root", 0)), "t")

    def test_sixty_joints_one_beneath_the_other(self):
        for many in (60, 90):
            joints = [(f"n{k}", "b") for k in range(many - 1)] + [("last", "z")]
            bush = ("last",)
            for k in reversed(range(many - 1)):
                bush = (f"n{k}", bush)
            grove = Grove(Bag(sample_book(), joints), ["blue"], [bush])
            self.assertEqual(grove.walk(), [name for name, _ in joints])
            above = [("root", 0)] + [(f"n{k}", 0) for k in range(many - 2)]
            self.assertEqual(grove.above((f"n{many - 2}", 0)), above)
            self.assertEqual(grove.names(("root", 0)), grove.walk())
            self.assertIs(grove.is_above(("root", 0), (f"n{many - 2}", 0)), True)
            self.assertEqual(grove, Grove(Bag(sample_book(), joints), ["blue"], [bush]))

    def test_sixty_roots_and_wide_shapes(self):
        book = Book([("s", "c", ("c",) * 24), ("e", "c", ())])
        joints = [("s0", "s")] + [(f"e{k}", "e") for k in range(83)]
        bushes = [("s0",) + tuple((f"e{k}",) for k in range(24))] + [(f"e{k}",) for k in range(24, 83)]
        grove = Grove(Bag(book, joints), ["c"] * 60, bushes)
        self.assertEqual(grove.walk(), [name for name, _ in joints])
        self.assertEqual(grove.place("e82"), ("root", 59))
        self.assertEqual(grove.place("e23"), ("s0", 23))

    def test_random_groves(self):
        draw = random_source(2)
        book = wide_book()
        for _ in range(40):
            roots = [draw.choice(("wood", "leaf")) for _ in range(draw.randrange(4))]
            bushes, joints = self.with_names(random_plain(draw, book, roots, 12))
            draw.shuffle(joints)
            bag = Bag(book, joints)
            grove = Grove(bag, roots, bushes)
            standing = oracles.table_of(bushes)
            self.assertEqual(grove.table(), [(place, standing[place]) for place in places_of(bag, roots)])
            hanging = oracles.hanging_of(bushes)
            for place in places_of(bag, roots):
                self.assertEqual(grove.names(place), hanging[place])

    def with_names(self, bushes):
        joints = []

        def look_at(bush):
            joints.append((f"x{len(joints)}", bush[0]))
            return (joints[-1][0],) + tuple([look_at(part) for part in bush[1:]])

        return [look_at(bush) for bush in bushes], joints


class TestAbove(Case):
    """S1.5 over all pairs of places."""

    def groves(self):
        twin_roots = Grove(
            Bag(wide_book(), [("v", "twig"), ("w", "tree"), ("b1", "bud"), ("b2", "bud"), ("k", "knob"), ("b3", "bud")]),
            ("wood", "wood"),
            (("v", ("b3",)), ("w", ("b1",), ("k",), ("b2",))),
        )
        return [sample_grove(), wide_grove(), twin_roots, Grove(Bag(sample_book(), []), (), ())]

    def test_above_is_above(self):
        for grove in self.groves():
            hanging = oracles.hanging_of(grove.bushes())
            for one in hanging:
                for other in hanging:
                    told = other[0] in hanging[one]
                    self.assertIs(grove.is_above(one, other), told, (one, other))

    def test_apart(self):
        for grove in self.groves():
            hanging = oracles.hanging_of(grove.bushes())
            for one in hanging:
                for other in hanging:
                    told = one != other and other[0] not in hanging[one] and one[0] not in hanging[other]
                    self.assertIs(grove.is_apart(one, other), told, (one, other))

    def test_above_from_the_root_downwards(self):
        grove = wide_grove()
        self.assertEqual(grove.above(("root", 0)), [])
        self.assertEqual(grove.above(("root", 3)), [])
        self.assertEqual(grove.above(("t", 2)), [("root", 0)])
        self.assertEqual(grove.above(("u", 0)), [("root", 0), ("t", 1)])
        self.assertEqual(grove.above(("w", 0)), [("root", 0), ("t", 1), ("u", 1)])

    def test_above_has_all_places_above(self):
        for grove in self.groves():
            places = [place for place, _ in grove.table()]
            for place in places:
                above = grove.above(place)
                self.assertEqual(sorted(above), sorted(one for one in places if grove.is_above(one, place)))
                for upper, lower in zip(above, above[1:]):
                    self.assertIs(grove.is_above(upper, lower), True)
                self.assertNotIn(place, above)

    def test_a_place_with_itself(self):
        for grove in self.groves():
            for place, _ in grove.table():
                self.assertIs(grove.is_above(place, place), False)
                self.assertIs(grove.is_apart(place, place), False)

    def test_told_by_hand(self):
        grove = sample_grove()
        self.assertIs(grove.is_above(("root", 0), ("p", 1)), True)
        self.assertIs(grove.is_above(("p", 1), ("root", 0)), False)
        self.assertIs(grove.is_above(("p", 0), ("r", 0)), True)
        self.assertIs(grove.is_above(("p", 1), ("r", 0)), False)
        self.assertIs(grove.is_apart(("p", 0), ("p", 1)), True)
        self.assertIs(grove.is_apart(("p", 1), ("r", 0)), True)
        self.assertIs(grove.is_apart(("r", 0), ("p", 1)), True)
        self.assertIs(grove.is_apart(("root", 0), ("r", 0)), False)
        self.assertIs(grove.is_apart(("r", 0), ("root", 0)), False)
        self.assertIs(wide_grove().is_apart(("root", 0), ("root", 1)), True)
        self.assertIs(wide_grove().is_apart(("root", 1), ("w", 0)), True)


class TestEquality(Case):
    def test_equal_groves(self):
        self.assert_equal_objects(sample_grove(), sample_grove())
        self.assert_equal_objects(wide_grove(), Grove(wide_bag(), list(WIDE_ROOTS), list(WIDE_BUSHES)))
        self.assert_equal_objects(Grove(Bag(Book([]), []), [], []), Grove(Bag(Book(()), ()), (), ()))

    def test_groves_with_other_bushes(self):
        grove = sample_grove()
        for bush in (
            ("p", ("q", ("r", ("y",))), ("z",)),
            ("p", ("y",), ("q", ("r", ("z",)))),
            ("p", ("r", ("q", ("z",))), ("y",)),
            ("p", ("q", ("z",)), ("r", ("y",))),
        ):
            self.assert_unequal_objects(grove, Grove(sample_bag(), ROOTS, [bush]))

    def test_groves_of_unlike_bags(self):
        turned = Bag(sample_book(), JOINTS[::-1])
        self.assert_unequal_objects(sample_grove(), Grove(turned, ROOTS, BUSHES))
        more = Bag(Book(SHAPES + (("more", "red", ()),)), JOINTS)
        self.assert_unequal_objects(sample_grove(), Grove(more, ROOTS, BUSHES))
        other = Bag(sample_book(), JOINTS[:-1] + (("x", "z"),))
        self.assert_unequal_objects(sample_grove(), Grove(other, ROOTS, [("p", ("q", ("r", ("x",))), ("y",))]))

    def test_groves_with_other_roots(self):
        book = Book([("e", "c", ()), ("f", "d", ())])
        bag = Bag(book, [("x", "e"), ("y", "f")])
        self.assert_unequal_objects(Grove(bag, ("c", "d"), [("x",), ("y",)]), Grove(bag, ("d", "c"), [("y",), ("x",)]))

    def test_other_values(self):
        for value in anything() + [list(BUSHES), BUSHES, ROOTS, sample_bag(), sample_book()]:
            if not isinstance(value, Grove):
                self.assert_unequal_objects(sample_grove(), value)
        self.assert_unequal_objects(sample_grove(), wide_grove())
        self.assertEqual(len(WIDE_JOINTS), 11)


if __name__ == "__main__":
    unittest.main()
