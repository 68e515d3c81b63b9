"""Assemblies."""

import unittest

from bushcoins.assemblies import Assembly, assembly_of
from bushcoins.bags import Bag, colour_of, places_of
from bushcoins.books import Book
from bushcoins.errors import BadAssembly, UnknownName
from bushcoins.groves import Grove
from tests.samples import (
    JOINTS, ROOTS, SHAPES, TABLE, WIDE_ROOTS, Case, anything, nested, no_names, no_places, random_source, sample_bag,
    sample_book, sample_grove, wide_bag, wide_book, wide_grove,
)

# Pairs of changes to the table of the samples and the path of the first wrong part: rows put in the place of others.
WRONG_ROWS = [
    # no tuple with two members
    ({0: None}, (1, 0)),
    ({0: ()}, (1, 0)),
    ({0: [("root", 0), "p"]}, (1, 0)),
    ({0: (("root", 0),)}, (1, 0)),
    ({0: (("root", 0), "p", "p")}, (1, 0)),
    ({2: "py"}, (1, 2)),
    ({4: {"a": 1, "b": 2}}, (1, 4)),
    # no place, or the place of an earlier row
    ({0: (["root", 0], "p")}, (1, 0, 0)),
    ({0: (("root", 1), "p")}, (1, 0, 0)),
    ({0: (("root", -1), "p")}, (1, 0, 0)),
    ({0: (("root", False), "p")}, (1, 0, 0)),
    ({0: (("root",), "p")}, (1, 0, 0)),
    ({0: (None, "p")}, (1, 0, 0)),
    ({1: (("p", 2), "q")}, (1, 1, 0)),
    ({2: (("p", True), "y")}, (1, 2, 0)),
    ({3: (("q", 1), "r")}, (1, 3, 0)),
    ({3: (("nobody", 0), "r")}, (1, 3, 0)),
    ({3: (("z", 0), "r")}, (1, 3, 0)),
    ({1: (("root", 0), "q")}, (1, 1, 0)),
    ({4: (("p", 0), "z")}, (1, 4, 0)),
    # no name, the name of an earlier row, another colour
    ({0: (("root", 0), None)}, (1, 0, 1)),
    ({0: (("root", 0), "root")}, (1, 0, 1)),
    ({0: (("root", 0), "a")}, (1, 0, 1)),
    ({0: (("root", 0), ["p"])}, (1, 0, 1)),
    ({0: (("root", 0), ("p",))}, (1, 0, 1)),
    ({0: (("root", 0), {})}, (1, 0, 1)),
    ({0: (("root", 0), "q")}, (1, 0, 1)),
    ({2: (("p", 1), "q")}, (1, 2, 1)),
    ({4: (("r", 0), "p")}, (1, 4, 1)),
    ({1: (("p", 0), "p")}, (1, 1, 1)),
    # two wrong parts at once: the first one in order
    ({0: (None, None)}, (1, 0, 0)),
    ({0: (("root", 0), None), 1: None}, (1, 0, 1)),
    ({1: (("root", 0), "p")}, (1, 1, 0)),
    ({1: (("p", 0), "nobody"), 2: (("p", 0), "y")}, (1, 1, 1)),
    ({3: (("q", 0), "p"), 4: None}, (1, 3, 1)),
    ({3: 5, 4: (("root", 0), "p")}, (1, 3)),
]


def changed(rows):
    return [rows.get(k, row) for k, row in enumerate(TABLE)]


# Two colours, joints that can make rings in many ways.
RING_BOOK = Book([
    ("one", "c", ("c",)),
    ("two", "c", ("c", "c")),
    ("end", "c", ()),
    ("odd", "d", ("c", "d")),
    ("dot", "d", ()),
])


def ring_bag(text):
    """A bag of the words of a text: joints called after the letters ahead of the colons."""
    return Bag(RING_BOOK, [tuple(part.split(":")) for part in text.split()])


class TestWrongAssemblies(Case):
    def test_roots(self):
        for roots, path in (
            (None, (0,)), ("red", (0,)), ({"red": 1}, (0,)), (0, (0,)), ([None], (0, 0)), (["Red"], (0, 0)),
            ([["red"]], (0, 0)), (("red", "blue", ""), (0, 2)), (["red", True, None], (0, 1)),
        ):
            self.assert_path(BadAssembly, path, Assembly, sample_bag(), roots, TABLE)
            self.assert_path(BadAssembly, path, Assembly, sample_bag(), roots, None)

    def test_tables_that_are_no_lists(self):
        for table in (None, "", "root", {}, dict(TABLE), 0, True, sample_grove()):
            self.assert_path(BadAssembly, (1,), Assembly, sample_bag(), ROOTS, table)

    def test_the_first_wrong_row(self):
        for rows, path in WRONG_ROWS:
            with self.subTest(rows=rows):
                for kind in (list, tuple):
                    self.assert_path(BadAssembly, path, Assembly, sample_bag(), ROOTS, kind(changed(rows)))

    def test_rows_behind_the_right_ones(self):
        for row, path in (
            (None, (1, 5)), ((("root", 0), "p"), (1, 5, 0)), ((("p", 1), "nobody"), (1, 5, 0)), (((), ()), (1, 5, 0)),
        ):
            self.assert_path(BadAssembly, path, Assembly, sample_bag(), ROOTS, TABLE + [row])
        spare = (("root", 1), "p")
        self.assert_path(BadAssembly, (1, 5, 1), Assembly, sample_bag(), ("red", "red"), TABLE + [spare])

    def test_places_or_joints_in_no_row(self):
        for k in range(5):
            self.assert_path(BadAssembly, (), Assembly, sample_bag(), ROOTS, TABLE[:k] + TABLE[k + 1:])
        self.assert_path(BadAssembly, (), Assembly, sample_bag(), ROOTS, [])
        self.assert_path(BadAssembly, (), Assembly, sample_bag(), ("red", "blue"), TABLE)
        more = Bag(sample_book(), JOINTS + (("x", "z"),))
        self.assert_path(BadAssembly, (), Assembly, more, ROOTS, TABLE)
        self.assert_path(BadAssembly, (), Assembly, Bag(sample_book(), []), ("red",), [])
        self.assert_path(BadAssembly, (), Assembly, Bag(sample_book(), [("z", "z")]), (), [])

    def test_a_wrong_row_comes_ahead_of_what_stands_nowhere(self):
        self.assert_path(BadAssembly, (1, 0), Assembly, sample_bag(), ROOTS, [None])
        self.assert_path(BadAssembly, (1, 1, 0), Assembly, sample_bag(), ROOTS, [TABLE[0], TABLE[0]])

    def test_anything(self):
        for value in anything():
            if not isinstance(value, (list, tuple)):
                self.assert_path(BadAssembly, (0,), Assembly, sample_bag(), value, TABLE)
                self.assert_path(BadAssembly, (1,), Assembly, sample_bag(), ROOTS, value)
            self.assert_path(BadAssembly, (0, 0), Assembly, sample_bag(), [value], TABLE)
            if not isinstance(value, tuple) or len(value) != 2:
                self.assert_path(BadAssembly, (1, 1), Assembly, sample_bag(), ROOTS, changed({1: value}))
            self.assert_path(BadAssembly, (1, 1, 1), Assembly, sample_bag(), ROOTS, changed({1: (("p", 0), value)}))
        for value in no_places("q"):
            self.assert_path(BadAssembly, (1, 1, 0), Assembly, sample_bag(), ROOTS, changed({1: (value, "q")}))
        for kind in ("list", "tuple", "dict"):
            self.assertRaises(BadAssembly, Assembly, sample_bag(), ROOTS, nested(75, kind))


class TestAssemblies(Case):
    def test_what_was_passed(self):
        for kind in (list, tuple):
            assembly = Assembly(sample_bag(), kind(ROOTS), kind(TABLE))
            self.assertEqual(assembly.bag(), sample_bag())
            self.assertIs(type(assembly.roots()), tuple)
            self.assertEqual(assembly.roots(), ROOTS)
            self.assertIs(type(assembly.table()), list)
            self.assertEqual(assembly.table(), TABLE)

    def test_rows_in_any_order(self):
        draw = random_source(5)
        table = wide_grove().table()
        whole = Assembly(wide_bag(), WIDE_ROOTS, table)
        for _ in range(30):
            mixed = list(table)
            draw.shuffle(mixed)
            assembly = Assembly(wide_bag(), WIDE_ROOTS, mixed)
            self.assertEqual(assembly.table(), table)
            self.assert_equal_objects(assembly, whole)
            self.assertEqual(assembly.grove(), wide_grove())

    def test_joint_and_place(self):
        assembly = Assembly(sample_bag(), ROOTS, TABLE[::-1])
        for place, name in TABLE:
            self.assertEqual(assembly.joint(place), name)
            self.assertEqual(assembly.place(name), place)

    def test_values_that_are_no_places_or_names(self):
        assembly = Assembly(sample_bag(), ROOTS, TABLE)
        for value in no_places("q"):
            self.assert_unknown(UnknownName, value, assembly.joint, value)
        for value in no_names() + ["a", "red"]:
            self.assert_unknown(UnknownName, value, assembly.place, value)

    def test_lists_are_new(self):
        table = [(("root", 0), "e"), (("b", 0), "b"), (("d", 0), "d")]
        assembly = Assembly(ring_bag("b:one d:one e:end"), ("c",), table)
        for call in (assembly.table, assembly.rings, assembly.pieces):
            self.assert_new(call)
        self.assertEqual(assembly.pieces(), [["e"], ["b"], ["d"]])

    def test_nothing_passed_is_kept_or_modified(self):
        roots, table = list(ROOTS), TABLE[::-1]
        assembly = Assembly(sample_bag(), roots, table)
        self.assertEqual((roots, table), (list(ROOTS), TABLE[::-1]))
        roots.append("x")
        table.clear()
        self.assertEqual(assembly.roots(), ROOTS)
        self.assertEqual(assembly.table(), TABLE)


class TestRings(Case):
    def test_no_ring(self):
        for grove in (sample_grove(), wide_grove()):
            assembly = assembly_of(grove)
            self.assertEqual(assembly.rings(), [])
            self.assertEqual(assembly.pieces(), [grove.bag().names()])
            self.assertEqual(assembly.grove(), grove)
            self.assertIsInstance(assembly.grove(), Grove)

    def test_nothing_at_all(self):
        assembly = Assembly(Bag(sample_book(), []), [], [])
        self.assertEqual((assembly.table(), assembly.rings(), assembly.pieces()), ([], [], [[]]))
        self.assertEqual(assembly.grove(), Grove(Bag(sample_book(), []), [], []))

    def test_a_joint_at_its_own_branch(self):
        bag = ring_bag("b:one")
        assembly = Assembly(bag, (), [(("b", 0), "b")])
        self.assertEqual(assembly.rings(), [(("b", 0),)])
        self.assertEqual(assembly.pieces(), [[], ["b"]])
        self.assertIsNone(assembly.grove())
        self.assertIs(type(assembly.rings()[0]), tuple)

    def test_the_ring_of_the_document(self):
        # b stands at a's branch, d at b's and a at d's: the places of a, b and d follow each other.
        bag = ring_bag("a:one b:one d:one")
        assembly = Assembly(bag, [], [(("a", 0), "b"), (("b", 0), "d"), (("d", 0), "a")])
        # The place of a is (d, 0), that of b (a, 0), that of d (b, 0); the first of them is (a, 0).
        self.assertEqual(assembly.rings(), [(("a", 0), ("b", 0), ("d", 0))])
        other = Assembly(bag, [], [(("a", 0), "d"), (("d", 0), "b"), (("b", 0), "a")])
        self.assertEqual(other.rings(), [(("a", 0), ("d", 0), ("b", 0))])

    def test_the_order_of_the_bag_tells_the_first_place(self):
        bag = ring_bag("d:one a:one b:one")
        assembly = Assembly(bag, [], [(("a", 0), "b"), (("b", 0), "d"), (("d", 0), "a")])
        self.assertEqual(assembly.rings(), [(("d", 0), ("a", 0), ("b", 0))])

    def test_the_example_of_part_6(self):
        book = Book([("p", "red", ()), ("q", "red", ("blue",)), ("z", "blue", ()), ("b", "blue", ("blue", "red"))])
        bag = Bag(book, [("p", "p"), ("q", "q"), ("z", "z"), ("b", "b")])
        assembly = Assembly(bag, ["red"], [(("root", 0), "p"), (("b", 0), "b"), (("b", 1), "q"), (("q", 0), "z")])
        self.assertEqual(assembly.rings(), [(("b", 0),)])
        self.assertEqual(assembly.pieces(), [["p"], ["q", "z", "b"]])
        self.assertIsNone(assembly.grove())

    def test_several_rings(self):
        bag = ring_bag("a:two b:one d:one e:end f:two g:one h:end i:end j:one")
        table = [
            (("root", 0), "j"), (("j", 0), "h"),
            (("f", 1), "b"), (("b", 0), "f"), (("f", 0), "i"),
            (("d", 0), "g"), (("g", 0), "a"), (("a", 0), "e"), (("a", 1), "d"),
        ]
        assembly = Assembly(bag, ["c"], table)
        self.assertEqual(
            assembly.rings(), [(("a", 1), ("d", 0), ("g", 0)), (("b", 0), ("f", 1))]
        )
        self.assertEqual(assembly.pieces(), [["h", "j"], ["a", "d", "e", "g"], ["b", "f", "i"]])
        self.assertIsNone(assembly.grove())

    def test_rings_are_ordered_by_their_first_places(self):
        # The ring of z begins at (m, 0), that of n at (n, 0), that of k at (k, 0).
        bag = ring_bag("k:one n:one m:one z:one")
        assembly = Assembly(bag, [], [(("z", 0), "m"), (("m", 0), "z"), (("n", 0), "n"), (("k", 0), "k")])
        self.assertEqual(assembly.rings(), [(("k", 0),), (("n", 0),), (("m", 0), ("z", 0))])
        self.assertEqual(assembly.pieces(), [[], ["k"], ["n"], ["m", "z"]])

    def test_a_ring_through_two_branches_of_a_colour(self):
        bag = ring_bag("x:two e:end")
        self.assertEqual(Assembly(bag, [], [(("x", 0), "x"), (("x", 1), "e")]).rings(), [(("x", 0),)])
        self.assertEqual(Assembly(bag, [], [(("x", 1), "x"), (("x", 0), "e")]).rings(), [(("x", 1),)])

    def test_random_assemblies(self):
        draw = random_source(6)
        ringed = 0
        for _ in range(300):
            bag, roots, table = self.random_case(draw)
            assembly = Assembly(bag, roots, table)
            self.check(bag, roots, dict(table), assembly)
            ringed += len(assembly.rings()) > 1
        self.assertGreater(ringed, 20)

    def random_case(self, draw):
        """Any bag, as many roots or further joints as it needs, and any table of all of them."""
        words = [draw.choice(("one", "two", "end", "end", "odd", "dot")) for _ in range(draw.randrange(9))]
        roots = []
        for colour, last in (("c", "end"), ("d", "dot")):
            shapes = [RING_BOOK.shape(word) for word in words]
            surplus = sum((stem == colour) - branches.count(colour) for _, stem, branches in shapes)
            roots += [colour] * surplus
            words += [last] * -surplus
        names = draw.sample("abcdefghijklmnopqrstuvwxyz", len(words))
        bag = Bag(RING_BOOK, list(zip(names, words)))
        table = []
        for colour in ("c", "d"):
            fitting = [name for name in names if bag.stem(name) == colour]
            draw.shuffle(fitting)
            places = [place for place in places_of(bag, roots) if colour_of(bag, roots, place) == colour]
            table += list(zip(places, fitting))
        draw.shuffle(table)
        return bag, roots, table

    def check(self, bag, roots, standing, assembly):
        places = places_of(bag, roots)
        order = {place: k for k, place in enumerate(places)}
        place_of = {name: place for place, name in standing.items()}

        def end_of(name):
            """The root, or the set of the places of the ring to which one comes."""
            for _ in range(len(standing)):
                place = place_of[name]
                if place[0] == "root":
                    return None
                name = place[0]
            ring = []
            while place_of[name] not in ring:
                ring.append(place_of[name])
                name = place_of[name][0]
            return frozenset(ring)

        ends = {name: end_of(name) for name in bag.names()}
        told = sorted({end for end in ends.values() if end is not None}, key=lambda ring: min(order[p] for p in ring))
        rings = assembly.rings()
        self.assertEqual([frozenset(ring) for ring in rings], told)
        for ring in rings:
            self.assertEqual(ring[0], min(ring, key=lambda place: order[place]))
            self.assertEqual(len(set(ring)), len(ring))
            for place, following in zip(ring, ring[1:] + ring[:1]):
                self.assertEqual(following[0], standing[place])
        pieces = [[name for name in bag.names() if ends[name] is None]]
        pieces += [[name for name in bag.names() if ends[name] == ring] for ring in told]
        self.assertEqual(assembly.pieces(), pieces)
        if rings:
            self.assertIsNone(assembly.grove())
        else:
            self.assertEqual(dict(assembly.grove().table()), standing)


class TestGroveAndBack(Case):
    def test_assembly_of(self):
        assembly = assembly_of(sample_grove())
        self.assertIsInstance(assembly, Assembly)
        self.assertEqual(assembly, Assembly(sample_bag(), ROOTS, TABLE))
        self.assertEqual(assembly.bag(), sample_bag())
        self.assertEqual(assembly.roots(), ROOTS)

    def test_there_and_back(self):
        for grove in (sample_grove(), wide_grove(), Grove(Bag(Book([]), []), [], [])):
            self.assertEqual(assembly_of(grove).grove(), grove)

    def test_sixty_joints_one_beneath_the_other(self):
        names = [f"n{k}" for k in range(90)]
        bag = Bag(sample_book(), [(name, "b") for name in names[:-1]] + [(names[-1], "z")])
        table = [(("root", 0), "n0")] + [((names[k], 0), names[k + 1]) for k in range(89)]
        grove = Assembly(bag, ["blue"], table).grove()
        self.assertEqual(grove.walk(), names)
        self.assertEqual(assembly_of(grove), Assembly(bag, ["blue"], table[::-1]))

    def test_a_ring_of_sixty_joints(self):
        names = [f"n{k}" for k in range(60)]
        bag = Bag(sample_book(), [(name, "b") for name in names])
        table = [((names[k], 0), names[(k + 1) % 60]) for k in range(60)]
        assembly = Assembly(bag, [], table)
        self.assertEqual(assembly.rings(), [tuple((name, 0) for name in names)])
        self.assertEqual(assembly.pieces(), [[], names])


class TestEquality(Case):
    def test_equal_assemblies(self):
        self.assert_equal_objects(Assembly(sample_bag(), ROOTS, TABLE), Assembly(sample_bag(), list(ROOTS), TABLE[::-1]))
        self.assert_equal_objects(Assembly(Bag(Book([]), []), [], []), Assembly(Bag(Book([]), ()), (), ()))

    def test_assemblies_that_differ(self):
        assembly = Assembly(sample_bag(), ROOTS, TABLE)
        twisted = changed({3: (("q", 0), "z"), 4: (("r", 0), "r")})
        self.assertEqual(Assembly(sample_bag(), ROOTS, twisted).rings(), [(("r", 0),)])
        self.assert_unequal_objects(assembly, Assembly(sample_bag(), ROOTS, twisted))
        turned = Bag(sample_book(), JOINTS[::-1])
        self.assert_unequal_objects(assembly, Assembly(turned, ROOTS, TABLE))
        more = Bag(Book(SHAPES + (("more", "red", ()),)), JOINTS)
        self.assert_unequal_objects(assembly, Assembly(more, ROOTS, TABLE))
        book = Book([("e", "c", ()), ("f", "d", ())])
        bag = Bag(book, [("x", "e"), ("y", "f")])
        one = Assembly(bag, ("c", "d"), [(("root", 0), "x"), (("root", 1), "y")])
        other = Assembly(bag, ("d", "c"), [(("root", 1), "x"), (("root", 0), "y")])
        self.assert_unequal_objects(one, other)

    def test_other_values(self):
        assembly = assembly_of(sample_grove())
        for value in anything() + [TABLE, dict(TABLE), sample_grove(), sample_bag(), wide_book()]:
            self.assert_unequal_objects(assembly, value)


if __name__ == "__main__":
    unittest.main()
