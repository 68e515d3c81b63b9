"""bushcoins.building: S6.1 and S6.2."""

import itertools
import unittest

from bushcoins.bags import Bag
from bushcoins.books import Book
from bushcoins.building import balance, built, can_build, judge_bar, reached
from bushcoins.errors import Unbuilt
from bushcoins.groves import Grove
from tests.lands import countries, large_grove
from tests.samples import Case, anything, nested, random_source, sample_bag
from tests.searches import COLOURS, balanced_bag, counts_of, random_bag, reached_of, some_grove

# red has a root only, blue a stem only, green a branch only.
LONELY = Bag(Book([("a", "blue", ("green",))]), [("a", "a")])
# Joints that can stand among themselves alone.
ROUND = Bag(Book([("b", "blue", ("blue",)), ("r", "red", ())]), [("b", "b"), ("r", "r")])


def small_bags(draw, many):
    """Random bags with roots: some balanced, some not, some with a grove, some without."""
    found = []
    for k in range(many):
        if k % 3:
            found.append(balanced_bag(draw, draw.randrange(7)))
        else:
            bag = random_bag(draw, draw.randrange(6))
            found.append((bag, [draw.choice(COLOURS) for _ in range(draw.randrange(4))]))
    return found


class TestBalance(Case):
    def test_colours_that_only_roots_only_stems_or_only_branches_have(self):
        self.assertEqual(balance(LONELY, ["red"]), [("blue", 1, 0), ("green", 0, 1), ("red", 0, 1)])
        self.assertEqual(balance(LONELY, []), [("blue", 1, 0), ("green", 0, 1)])
        self.assertEqual(balance(LONELY, ("zz", "red", "zz")), [
            ("blue", 1, 0), ("green", 0, 1), ("red", 0, 1), ("zz", 0, 2),
        ])
        self.assertEqual(balance(Bag(Book([("a", "red", ())]), ()), ()), [])

    def test_by_hand(self):
        self.assertEqual(balance(sample_bag(), ["red"]), [("blue", 4, 4), ("red", 1, 1)])
        self.assertEqual(balance(sample_bag(), ["blue", "red", "red"]), [("blue", 4, 5), ("red", 1, 2)])
        for row in balance(sample_bag(), ["red"]):
            self.assertIs(type(row), tuple)

    def test_random_bags(self):
        for bag, roots in small_bags(random_source(111), 60):
            stems, branches, tops = counts_of(bag, roots)
            right = []
            for colour in sorted(stems):
                places = branches[colour] + tops[colour]
                if stems[colour] or places:
                    right.append((colour, stems[colour], places))
            self.assertEqual(balance(bag, roots), right)


class TestReached(Case):
    def test_by_hand(self):
        self.assertEqual(reached(sample_bag(), ["red"]), ["blue", "red"])
        self.assertEqual(reached(sample_bag(), ["blue"]), ["blue"])
        self.assertEqual(reached(sample_bag(), []), [])
        # Also those of which there is no stem.
        self.assertEqual(reached(LONELY, ["blue"]), ["blue", "green"])
        self.assertEqual(reached(LONELY, ["red"]), ["red"])
        self.assertEqual(reached(LONELY, ("red", "zz", "blue", "red")), ["blue", "green", "red", "zz"])
        self.assertEqual(reached(ROUND, ["red"]), ["red"])

    def test_a_long_chain_of_colours(self):
        names = [f"c{k}" for k in range(20)]
        book = Book([(f"s{k}", names[k], (names[k + 1],)) for k in range(19)][::-1])
        bag = Bag(book, [(f"j{k}", f"s{k}") for k in range(19)])
        self.assertEqual(reached(bag, ["c0"]), sorted(names))
        self.assertEqual(reached(bag, ["c15"]), sorted(names[15:]))

    def test_random_bags(self):
        for bag, roots in small_bags(random_source(112), 60):
            self.assertEqual(reached(bag, roots), reached_of(bag, roots))

    def test_lists_are_new(self):
        bag = sample_bag()
        roots = ["red", "blue"]
        self.assert_new(lambda: balance(bag, roots))
        self.assert_new(lambda: reached(bag, roots))
        self.assertEqual(roots, ["red", "blue"])
        self.assertIsNot(reached(Bag(Book(()), ()), roots), roots)


class TestBuilt(Case):
    def check(self, bag, roots):
        """Whether a grove is built; what is told otherwise is checked."""
        if can_build(bag, roots):
            told = built(bag, roots)
            self.assertIs(type(told), Grove)
            self.assertEqual(told.bag(), bag)
            self.assertEqual(told.roots(), tuple(roots))
            self.assertEqual(built(bag, list(roots)), told)
            return True
        with self.assertRaises(Unbuilt) as caught:
            built(bag, roots)
        error = caught.exception
        self.assertIs(type(error), Unbuilt)
        unlike = [colour for colour, joints, places in balance(bag, roots) if joints != places]
        right = ("colour", unlike[0]) if unlike else ("closed", tuple(reached_of(bag, roots)))
        self.assertEqual((error.word, error.value), right)
        self.assertIs(judge_bar(bag, roots, (error.word, error.value)), True)
        return False

    def test_against_a_search(self):
        met = []
        for bag, roots in small_bags(random_source(113), 400):
            can = some_grove(bag, roots) is not None
            self.assertIs(can_build(bag, roots), can)
            self.assertIs(self.check(bag, roots), can)
            met.append((can, len(roots)))
        for can in (True, False):
            self.assertTrue([1 for one, many in met if one == can and many > 1])

    def test_bags_of_which_there_is_a_grove(self):
        draw = random_source(114)
        for country in countries():
            grove = list(country.groves.values())[0]
            self.assertTrue(self.check(grove.bag(), grove.roots()))
        for _ in range(20):
            grove = large_grove(draw)
            joints = grove.bag().joints()
            draw.shuffle(joints)
            bag = Bag(grove.bag().book(), joints)
            self.assertTrue(self.check(bag, grove.roots()))

    def test_joints_that_can_stand_among_themselves_alone(self):
        self.assertFalse(self.check(ROUND, ["red"]))
        with self.assertRaises(Unbuilt) as caught:
            built(ROUND, ["red"])
        self.assertEqual((caught.exception.word, caught.exception.value), ("closed", ("red",)))
        # With a joint that has a branch for them they can stand beneath it.
        book = Book([("b", "blue", ("blue",)), ("a", "red", ("blue",)), ("z", "blue", ())])
        bag = Bag(book, [(f"b{k}", "b") for k in range(50)] + [("z", "z"), ("a", "a")])
        self.assertTrue(self.check(bag, ["red"]))

    def test_many_rings_of_many_colours(self):
        """Joints that could stand at their own branches, and for each colour one joint that leads on to the next."""
        names = [f"c{k}" for k in range(8)]
        shapes = [(f"s{k}", names[k], (names[k], names[k + 1])) for k in range(7)]
        shapes += [(f"e{k}", names[k], ()) for k in range(8)]
        shapes += [(f"r{k}", names[k], (names[k],)) for k in range(8)]
        joints = [(f"r{k}x{n}", f"r{k}") for n in range(4) for k in range(8)]
        joints += [(f"e{k}", f"e{k}") for k in range(8)] + [(f"s{k}", f"s{k}") for k in range(7)]
        draw = random_source(116)
        for order in (joints, joints[::-1], draw.sample(joints, len(joints)), draw.sample(joints, len(joints))):
            bag = Bag(Book(shapes), order)
            self.assertTrue(self.check(bag, ["c0"]))
            self.assertFalse(self.check(bag, ["c1"]))
        # Without the joint that leads from c3 to c4 a root more is needed.
        bag = Bag(Book(shapes), [row for row in joints if row[0] != "s3"])
        with self.assertRaises(Unbuilt) as caught:
            built(bag, ["c0"])
        self.assertEqual((caught.exception.word, caught.exception.value), ("colour", "c4"))
        self.assertTrue(self.check(bag, ["c4", "c0"]))

    def test_no_joints_and_no_roots(self):
        empty = Bag(Book([("r", "red", ())]), ())
        self.assertTrue(self.check(empty, []))
        self.assertEqual(built(empty, ()).bushes(), [])
        self.assertFalse(self.check(empty, ["red"]))
        with self.assertRaises(Unbuilt) as caught:
            built(empty, ["zz", "red"])
        self.assertEqual((caught.exception.word, caught.exception.value), ("colour", "red"))
        # Balanced, but without a root.
        alone = Bag(Book([("b", "blue", ("blue",))]), [("b", "b")])
        self.assertFalse(self.check(alone, []))
        with self.assertRaises(Unbuilt) as caught:
            built(alone, [])
        self.assertEqual((caught.exception.word, caught.exception.value), ("closed", ()))
        self.assertIs(type(caught.exception.value), tuple)

    def test_the_first_colour(self):
        with self.assertRaises(Unbuilt) as caught:
            built(LONELY, ["red"])
        self.assertEqual((caught.exception.word, caught.exception.value), ("colour", "blue"))
        # A colour comes ahead of what is not reached.
        with self.assertRaises(Unbuilt) as caught:
            built(ROUND, ["red", "zz"])
        self.assertEqual((caught.exception.word, caught.exception.value), ("colour", "zz"))

    def test_roots_stay(self):
        roots = ["red"]
        built(sample_bag(), roots)
        can_build(sample_bag(), roots)
        judge_bar(sample_bag(), roots, None)
        self.assertEqual(roots, ["red"])


class TestJudgeBar(Case):
    def told(self, bag, roots, colours):
        """Whether ("closed", colours) is a bar, by the words of S6.2, for ascending words."""
        if not set(roots) <= set(colours):
            return False
        for name in bag.names():
            if bag.stem(name) in colours and not set(bag.branches(name)) <= set(colours):
                return False
        return bool([name for name in bag.names() if bag.stem(name) not in colours])

    def test_all_bars_of_small_bags(self):
        """There is a bar exactly if there is no grove."""
        for bag, roots in small_bags(random_source(115), 150):
            met = False
            stems, branches, tops = counts_of(bag, roots)
            for colour in sorted(stems):
                right = stems[colour] != branches[colour] + tops[colour]
                self.assertIs(judge_bar(bag, roots, ("colour", colour)), right)
                met = met or right
            for many in range(len(stems) + 1):
                for colours in itertools.combinations(sorted(stems), many):
                    right = self.told(bag, roots, colours)
                    self.assertIs(judge_bar(bag, tuple(roots), ("closed", colours)), right)
                    met = met or right
            self.assertIs(met, not can_build(bag, roots))

    def test_words_that_are_no_colours(self):
        self.assertIs(judge_bar(ROUND, ["red"], ("closed", ("red",))), True)
        self.assertIs(judge_bar(ROUND, ["red"], ("closed", ("red", "zz"))), True)
        self.assertIs(judge_bar(ROUND, ["red"], ("closed", ("aa", "red", "root"))), True)
        self.assertIs(judge_bar(ROUND, ["red"], ("closed", ("blue", "red"))), False)
        self.assertIs(judge_bar(ROUND, ["red"], ("closed", ())), False)
        self.assertIs(judge_bar(ROUND, [], ("closed", ())), True)
        for colour in ("zz", "red", "blue"):
            self.assertIs(judge_bar(ROUND, ["red"], ("colour", colour)), False)
        self.assertIs(judge_bar(ROUND, ["red", "zz"], ("colour", "zz")), True)

    def test_tuples_that_are_not_ascending_or_not_of_words(self):
        bag = Bag(Book([("b", "blue", ()), ("r", "red", ("green",))]), [("b", "b"), ("r", "r")])
        self.assertIs(judge_bar(bag, ["red"], ("closed", ("green", "red"))), True)
        for colours in (
            ("red", "green"), ("green", "green", "red"), ("green", "red", "red"), ("red",), ("green",),
            ["green", "red"], ("green", "red", "Z"), ("", "green", "red"), ("green", "red", 1), ("green", "red", None),
            ("green", "red", ("z",)), ("green", "red", "z z"), {"green": 1, "red": 1}, "green", ("green", "red", []),
            ("a_b", "green", "red"), ("green", "red", "x" * 13),
        ):
            self.assertIs(judge_bar(bag, ["red"], ("closed", colours)), False, colours)
        self.assertIs(judge_bar(bag, ["red"], ("closed", ("green", "red", "x" * 12))), True)

    def test_values_of_every_kind(self):
        bag = Bag(Book([("b", "blue", ()), ("r", "red", ("green",))]), [("b", "b"), ("r", "r")])
        for value in anything() + [("closed",), ("colour",), ("closed", ("green", "red"), 1), ("colour", "blue", 1)]:
            self.assertIs(judge_bar(bag, ["red"], value), False, value)
        for value in anything():
            self.assertIs(judge_bar(bag, ["red"], (value, "blue")), False)
            self.assertIs(judge_bar(bag, ["red"], (value, ("green", "red"))), False)
            self.assertIs(judge_bar(bag, ["red"], ("colour", value)), False)
            self.assertIs(judge_bar(bag, ["red"], ("closed", value)), False, value)
        self.assertIs(judge_bar(bag, ["red"], ("colour", "blue")), True)
        for value in (
            ["colour", "blue"], ("colour", ["blue"]), ("colour", ("blue",)), ["closed", ("green", "red")],
            ("Colour", "blue"), ("colour", "blue", "blue"), ("many", "blue"), ("few", "blue"), (("colour", "blue"),),
            ("closed", nested(68, "tuple")),
        ):
            self.assertIs(judge_bar(bag, ["red"], value), False, value)


if __name__ == "__main__":
    unittest.main()
