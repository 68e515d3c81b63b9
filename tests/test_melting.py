"""bushcoins.melting: S8.1 and S8.2."""

import unittest

from bushcoins.bags import Bag, places_of
from bushcoins.books import Book
from bushcoins.counting import count_named
from bushcoins.errors import Clash, UnknownName, UnlikeGroves
from bushcoins.groves import Grove
from bushcoins.melting import first_clash, melted, melted_grove, open_places, stands_for, unmelted_grove
from tests.lands import large_grove
from tests.samples import Case, anything, no_names, random_source, sample_bag, sample_grove
from tests.truths import Truth, mixed_bag, no_facts, random_truths, ring_bag, truths

BLUE = ["blue"]


class FactCase(Case):
    def assert_clash(self, number, call, *told):
        with self.assertRaises(Clash) as caught:
            call(*told)
        self.assertIs(type(caught.exception), Clash)
        self.assertIs(type(caught.exception.number), int)
        self.assertEqual(caught.exception.number, number)


class TestFirstClash(FactCase):
    def check(self, facts, right, bag=None, roots=BLUE):
        for told in (facts, tuple(facts)):
            found = first_clash(bag or ring_bag(), roots, told)
            self.assertEqual(found, right)
            if found is not None:
                self.assertEqual([type(found), type(found[0]), type(found[1])], [tuple, int, str])

    def test_no_clash(self):
        self.check([], None)
        self.check([(("root", 0), "a")], None)
        self.check([(("root", 0), "a"), (("a", 0), "b"), (("b", 0), "c"), (("c", 1), "d")], None)
        # From below upwards, and in any order.
        self.check([(("c", 1), "d"), (("b", 0), "c"), (("a", 0), "b"), (("root", 0), "a")], None)
        self.check([(("b", 0), "c"), (("a", 0), "b"), (("c", 1), "d")], None)

    def test_equal_facts_told_twice(self):
        self.check([(("a", 0), "b"), (("a", 0), "b")], None)
        self.check([(("a", 0), "b"), (("b", 0), "c"), (("a", 0), "b"), (("b", 0), "c"), (("a", 0), "b")], None)
        self.check([(("root", 0), "a"), (("root", 0), "a"), (("root", 0), "b")], (2, "place"))

    def test_colour(self):
        bag = mixed_bag()
        self.check([(("root", 0), "b1")], (0, "colour"), bag, ["red"])
        self.check([(("a1", 0), "r1")], (0, "colour"), bag, ["red"])
        self.check([(("a1", 1), "r1"), (("a1", 0), "r1")], (1, "colour"), bag, ["red"])
        self.check([(("root", 0), "a1")], (0, "colour"), bag, ["zz"])

    def test_place_and_name(self):
        self.check([(("a", 0), "b"), (("a", 0), "c")], (1, "place"))
        self.check([(("a", 0), "b"), (("c", 0), "b")], (1, "name"))
        self.check([(("a", 0), "b"), (("c", 0), "d"), (("c", 1), "y"), (("c", 1), "z")], (3, "place"))
        self.check([(("a", 0), "b"), (("c", 0), "d"), (("c", 1), "y"), (("root", 0), "y")], (3, "name"))

    def test_ring(self):
        self.check([(("a", 0), "a")], (0, "ring"))
        self.check([(("c", 1), "c")], (0, "ring"))
        self.check([(("a", 0), "b"), (("b", 0), "a")], (1, "ring"))
        self.check([(("a", 0), "b"), (("b", 0), "c"), (("c", 1), "d"), (("d", 0), "a")], (3, "ring"))
        # Round the ring in another order: the last fact closes it, whichever it is.
        self.check([(("d", 0), "a"), (("b", 0), "c"), (("a", 0), "b"), (("c", 1), "d")], (3, "ring"))
        self.check([(("c", 0), "d"), (("d", 0), "a"), (("a", 0), "b"), (("b", 0), "c")], (3, "ring"))
        # To the middle of what leads up.
        self.check([(("a", 0), "b"), (("b", 0), "c"), (("c", 1), "d"), (("d", 0), "b")], (3, "name"))
        self.check([(("b", 0), "c"), (("c", 1), "d"), (("d", 0), "b")], (2, "ring"))

    def test_two_at_once(self):
        bag = Bag(Book([("r", "red", ("red", "blue")), ("b", "blue", ("red",))]), [("r", "r"), ("s", "r"), ("b", "b")])
        red = ["red"]
        # The colour ahead of all others.
        self.check([(("r", 1), "b"), (("r", 1), "s")], (1, "colour"), bag, red)
        self.check([(("root", 0), "s"), (("r", 1), "s")], (1, "colour"), bag, red)
        self.check([(("r", 1), "r")], (0, "colour"), bag, red)
        # The place ahead of the name and of the ring.
        self.check([(("r", 0), "s"), (("root", 0), "r"), (("root", 0), "s")], (2, "place"), bag, red)
        self.check([(("r", 0), "s"), (("r", 0), "r")], (1, "place"), bag, red)
        # The name ahead of the ring.
        self.check([(("root", 0), "r"), (("r", 0), "r")], (1, "name"), bag, red)
        self.check([(("root", 0), "r"), (("r", 0), "s"), (("s", 0), "r")], (2, "name"), bag, red)
        # All of them but for the colour.
        self.check([(("root", 0), "r"), (("r", 0), "s"), (("r", 0), "r")], (2, "place"), bag, red)
        # The first fact counts, whatever its word.
        self.check([(("r", 0), "r"), (("r", 1), "s"), 7], (0, "ring"), bag, red)
        self.check([7, (("r", 0), "r")], (0, "form"), bag, red)

    def test_against_another_look(self):
        met = set()
        draw = random_source(231)
        for truth in truths() + random_truths(draw, 30):
            for _ in range(60):
                facts = truth.some_facts(draw, 6)
                right = truth.clash(facts)
                self.check(facts, right, truth.bag, truth.roots)
                met.add(None if right is None else right[1])
                if right is not None:
                    self.assertEqual(truth.with_facts(facts), [])
        self.assertEqual(met, {None, "colour", "place", "name", "ring"})

    def test_values_that_are_no_lists(self):
        for value in anything():
            if not isinstance(value, (list, tuple)):
                self.assertEqual(first_clash(ring_bag(), BLUE, value), (0, "form"))
        self.assertIs(type(first_clash(ring_bag(), BLUE, None)), tuple)
        self.assertEqual(first_clash(ring_bag(), BLUE, {(("a", 0), "b"): 1}), (0, "form"))
        self.assertEqual(first_clash(ring_bag(), BLUE, "ab"), (0, "form"))

    def test_values_that_are_no_facts(self):
        good = [(("root", 0), "a"), (("c", 0), "d")]
        for value in no_facts(("a", 0), "b"):
            for k in range(3):
                self.check(good[:k] + [value] + good[k:], (k, "form"))
                self.check(good[:k] + [value, value, (("c", 0), "c")], (k, "form"))
        self.assertEqual(first_clash(ring_bag(), BLUE, (("a", 0), "b")), (0, "form"))
        for value in ((("a", True), "b"), (("c", True), "b"), (("root", False), "a"), (["a", 0], "b"), [("a", 0), "b"]):
            self.check([value], (0, "form"))
        # No place: an unknown name, a number that is too great or below 0.
        for place in (("nobody", 0), ("y", 0), ("a", 1), ("a", -1), ("root", 1), ("root", -1)):
            self.check([(place, "b")], (0, "form"))

    def test_facts_stay(self):
        facts = [(("a", 0), "b"), (("b", 0), "a")]
        first_clash(ring_bag(), BLUE, facts)
        self.assertEqual(facts, [(("a", 0), "b"), (("b", 0), "a")])


class TestMelted(FactCase):
    def test_nothing_told(self):
        bag, roots = melted(sample_bag(), ["red"], [])
        self.assertEqual(roots, ("red",))
        self.assertIs(type(roots), tuple)
        self.assertEqual(bag.joints(), [(name, name) for name in "pqryz"])
        self.assertEqual(bag.book().shapes(), [
            ("p", "red", ("blue", "blue")), ("q", "blue", ("blue",)), ("r", "blue", ("blue",)),
            ("y", "blue", ()), ("z", "blue", ()),
        ])
        self.assertEqual(stands_for(sample_bag(), ["red"], []), [
            (place, place) for place in places_of(sample_bag(), ["red"])
        ])

    def test_all_joints_told(self):
        facts = [(place, name) for place, name in sample_grove().table()]
        for told in (facts, facts[::-1], tuple(facts), facts + facts):
            bag, roots = melted(sample_bag(), ["red"], told)
            self.assertEqual((bag.joints(), bag.book().shapes(), roots), ([], [], ()))
            self.assertEqual(stands_for(sample_bag(), ["red"], told), [])
            for name in "pqryz":
                self.assertEqual(open_places(sample_bag(), ["red"], told, name), [])

    def test_told_branches_beneath_told_branches(self):
        # c holds a in its first branch and a holds b; d holds nothing told.
        facts = [(("a", 0), "b"), (("c", 0), "a")]
        self.assertEqual(open_places(ring_bag(), BLUE, facts, "c"), [("b", 0), ("c", 1)])
        self.assertEqual(open_places(ring_bag(), BLUE, facts, "a"), [("b", 0)])
        self.assertEqual(open_places(ring_bag(), BLUE, facts, "b"), [("b", 0)])
        self.assertEqual(open_places(ring_bag(), BLUE, facts, "d"), [("d", 0)])
        self.assertEqual(open_places(ring_bag(), BLUE, facts, "y"), [])
        bag, roots = melted(ring_bag(), BLUE, facts)
        self.assertEqual(bag.book().shapes(), [
            ("c", "blue", ("blue", "blue")), ("d", "blue", ("blue",)), ("y", "blue", ()), ("z", "blue", ()),
        ])
        self.assertEqual(roots, ("blue",))
        self.assertEqual(stands_for(ring_bag(), BLUE, facts), [
            (("root", 0), ("root", 0)), (("c", 0), ("b", 0)), (("c", 1), ("c", 1)), (("d", 0), ("d", 0)),
        ])

    def test_told_roots(self):
        facts = [(("root", 0), "c"), (("c", 1), "a")]
        bag, roots = melted(ring_bag(), BLUE, facts)
        self.assertEqual(roots, ("blue", "blue"))
        self.assertEqual(bag.names(), ["b", "d", "y", "z"])
        self.assertEqual(stands_for(ring_bag(), BLUE, facts), [
            (("root", 0), ("c", 0)), (("root", 1), ("a", 0)), (("b", 0), ("b", 0)), (("d", 0), ("d", 0)),
        ])
        # A told joint without open places: the root is gone.
        bag, roots = melted(mixed_bag(), ["red", "blue", "red"], [(("root", 0), "r1"), (("root", 1), "b1")])
        self.assertEqual(roots, ("red", "red"))
        self.assertEqual(stands_for(mixed_bag(), ["red", "blue", "red"], [(("root", 0), "r1"), (("root", 1), "b1")]), [
            (("root", 0), ("b1", 0)), (("root", 1), ("root", 2)), (("a1", 0), ("a1", 0)), (("a1", 1), ("a1", 1)),
        ])

    def test_colours_of_open_places(self):
        facts = [(("a1", 0), "b1")]
        bag, roots = melted(mixed_bag(), ["red"], facts)
        self.assertEqual(bag.book().shapes(), [
            ("a1", "red", ("red", "red")), ("z1", "blue", ()), ("r1", "red", ()), ("r2", "red", ()),
        ])
        self.assertEqual(roots, ("red",))
        bag, roots = melted(mixed_bag(), ["red"], [(("root", 0), "a1")])
        self.assertEqual(roots, ("blue", "red"))

    def open_of(self, truth, facts, name):
        """The open places of a joint, or of all roots for "root", by recursion."""
        many = len(truth.roots) if name == "root" else len(truth.bag.branches(name))
        found = []
        for n in range(many):
            told = [joint for place, joint in facts if place == (name, n)]
            found += self.open_of(truth, facts, told[0]) if told else [(name, n)]
        return found

    def test_random_facts(self):
        draw = random_source(232)
        met = 0
        for truth in truths() + random_truths(draw, 20):
            for _ in range(25):
                facts = truth.some_facts(draw, 5)
                if truth.clash(facts):
                    continue
                told = [name for _, name in facts]
                for name in truth.bag.names():
                    right = self.open_of(truth, facts, name)
                    self.assertEqual(open_places(truth.bag, truth.roots, facts, name), right)
                bag, roots = melted(truth.bag, list(truth.roots), tuple(facts))
                names = [name for name in truth.bag.names() if name not in told]
                self.assertEqual(bag.joints(), [(name, name) for name in names])
                pairs = [(("root", n), place) for n, place in enumerate(self.open_of(truth, facts, "root"))]
                for name in names:
                    pairs += [((name, n), place) for n, place in enumerate(self.open_of(truth, facts, name))]
                self.assertEqual(stands_for(truth.bag, truth.roots, facts), pairs)
                self.assertEqual([place for place, _ in pairs], places_of(bag, roots))
                self.assertEqual(bag.book().shapes(), [
                    (name, truth.bag.stem(name), tuple(truth.colour(p) for p in self.open_of(truth, facts, name)))
                    for name in names
                ])
                self.assertEqual(roots, tuple(truth.colour(place) for place in self.open_of(truth, facts, "root")))
                met += bool(facts) and bool(names)
        self.assertGreater(met, 100)

    def test_clashes(self):
        for facts, number in (
            ([(("a", 0), "a")], 0), ([(("a", 0), "b"), (("a", 0), "c")], 1), ([(("a", 0), "b"), (("b", 0), "a")], 1),
        ):
            self.assert_clash(number, melted, ring_bag(), BLUE, facts)
            self.assert_clash(number, stands_for, ring_bag(), BLUE, facts)
            self.assert_clash(number, open_places, ring_bag(), BLUE, facts, "a")
            # Ahead of a name that is none.
            self.assert_clash(number, open_places, ring_bag(), BLUE, facts, "nobody")
            self.assert_clash(number, open_places, ring_bag(), BLUE, facts, [])

    def test_names_that_are_none(self):
        for value in no_names():
            if value != "a":
                self.assert_unknown(UnknownName, value, open_places, ring_bag(), BLUE, [], value)
                self.assert_unknown(UnknownName, value, open_places, ring_bag(), BLUE, ((("a", 0), "b"),), value)

    def test_what_is_returned(self):
        facts = [(("a", 0), "b"), (("c", 0), "a")]
        self.assert_new(lambda: open_places(ring_bag(), BLUE, facts, "c"))
        self.assert_new(lambda: open_places(ring_bag(), BLUE, [], "c"))
        self.assert_new(lambda: stands_for(ring_bag(), BLUE, facts))
        told = melted(ring_bag(), BLUE, facts)
        self.assertEqual([type(told), type(told[0]), type(told[1])], [tuple, Bag, tuple])
        self.assertEqual(melted(ring_bag(), BLUE, facts), told)
        for place, other in stands_for(ring_bag(), BLUE, facts):
            self.assertEqual([type(place), type(other)], [tuple, tuple])
        self.assertEqual(facts, [(("a", 0), "b"), (("c", 0), "a")])
        self.assertEqual(BLUE, ["blue"])


class TestGroves(FactCase):
    def test_there_and_back(self):
        """All groves that have the facts, and all groves of the melted bag, belong together."""
        draw = random_source(233)
        met = 0
        for truth in truths() + random_truths(draw, 15):
            for _ in range(6):
                facts = truth.some_facts(draw, 4)
                numbers = truth.with_facts(facts)
                if truth.clash(facts):
                    continue
                bag, roots = melted(truth.bag, truth.roots, facts)
                other = Truth(bag, roots)
                self.assertEqual(len(other.groves), len(numbers))
                self.assertEqual(count_named(bag, roots), len(numbers))
                # In the order of their numbers.
                for k, grove in zip(numbers, other.groves):
                    self.assertEqual(melted_grove(truth.groves[k], facts), grove)
                    self.assertEqual(unmelted_grove(truth.bag, truth.roots, facts, grove), truth.groves[k])
                    self.assertEqual(unmelted_grove(truth.bag, list(truth.roots), tuple(facts), grove), truth.groves[k])
                    for place, stands in stands_for(truth.bag, truth.roots, facts):
                        self.assertEqual(grove.joint(place), truth.groves[k].joint(stands))
                met += bool(facts) and len(numbers) > 1
        self.assertGreater(met, 15)

    def test_sixty_joints(self):
        draw = random_source(234)
        for _ in range(3):
            grove = large_grove(draw)
            table = grove.table()
            for many in (0, 1, len(table) // 2, len(table) - 1, len(table)):
                facts = draw.sample(table, many)
                told = melted_grove(grove, facts)
                self.assertEqual(len(told.walk()), len(table) - many)
                self.assertEqual((told.bag(), told.roots()), melted(grove.bag(), grove.roots(), facts))
                self.assertEqual(unmelted_grove(grove.bag(), grove.roots(), facts, told), grove)

    def test_by_hand(self):
        facts = [(("q", 0), "r"), (("root", 0), "p")]
        told = melted_grove(sample_grove(), facts)
        self.assertIs(type(told), Grove)
        self.assertEqual(told.roots(), ("blue", "blue"))
        self.assertEqual(told.bushes(), [("q", ("z",)), ("y",)])
        self.assertEqual(unmelted_grove(sample_bag(), ["red"], facts, told), sample_grove())

    def test_facts_that_the_grove_does_not_have(self):
        table = sample_grove().table()
        self.assert_clash(0, melted_grove, sample_grove(), [(("p", 0), "r")])
        self.assert_clash(2, melted_grove, sample_grove(), [table[0], table[1], (("p", 1), "z"), (("q", 0), "y")])
        self.assert_clash(1, melted_grove, sample_grove(), (table[4], (("q", 0), "y"), table[0]))
        # A fact that clashes comes first, wherever it stands.
        self.assert_clash(2, melted_grove, sample_grove(), [(("p", 0), "r"), table[0], (("q", 0), "q")])
        self.assert_clash(1, melted_grove, sample_grove(), [(("p", 0), "r"), (("p", 0), "q")])
        self.assert_clash(1, melted_grove, sample_grove(), [table[1], (("p", 0), "r")])

    def test_groves_of_another_bag_or_other_roots(self):
        facts = [(("root", 0), "p"), (("p", 1), "y")]
        right = melted_grove(sample_grove(), facts)
        bag = right.bag()
        turned = Bag(bag.book(), bag.joints()[::-1])
        other = Bag(Book(bag.book().shapes()[::-1]), bag.joints())
        for grove in (
            sample_grove(), Grove(turned, right.roots(), right.bushes()), Grove(other, right.roots(), right.bushes()),
            melted_grove(sample_grove(), facts[:1]), melted_grove(sample_grove(), []),
        ):
            with self.assertRaises(UnlikeGroves) as caught:
                unmelted_grove(sample_bag(), ["red"], facts, grove)
            self.assertIs(type(caught.exception), UnlikeGroves)
        self.assertEqual(unmelted_grove(sample_bag(), ["red"], facts, right), sample_grove())
        # Other roots with an equal bag.
        book = Book([("r", "red", ()), ("b", "blue", ())])
        both = Bag(book, [("r", "r"), ("b", "b")])
        one = Grove(both, ["red", "blue"], [("r",), ("b",)])
        with self.assertRaises(UnlikeGroves):
            unmelted_grove(both, ["blue", "red"], [], melted_grove(one, []))
        self.assertEqual(unmelted_grove(both, ["red", "blue"], [], melted_grove(one, [])), one)

    def test_a_clash_comes_ahead_of_unlike_groves(self):
        self.assert_clash(1, unmelted_grove, sample_bag(), ["red"], [(("p", 0), "q"), (("p", 0), "r")], sample_grove())

    def test_what_was_passed_stays(self):
        grove, facts = sample_grove(), [(("q", 0), "r"), (("root", 0), "p")]
        told = melted_grove(grove, facts)
        unmelted_grove(grove.bag(), grove.roots(), facts, told)
        self.assertEqual((grove, facts), (sample_grove(), [(("q", 0), "r"), (("root", 0), "p")]))


if __name__ == "__main__":
    unittest.main()
