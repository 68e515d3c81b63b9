"""bushcoins.heaps: S6.3 to S6.5, and the second example of S6.9."""

import itertools
import unittest

from bushcoins.bags import Bag, places_of
from bushcoins.books import Book
from bushcoins.errors import Unbuilt
from bushcoins.heaps import (
    can_pack, fewest, heap_roots, is_heap, judge_heap_bar, judge_lot, lots, open_places, packed, packed_fewest, surplus,
)
from tests.samples import Case, anything, nested, random_source
from tests.searches import COLOURS, all_lots, counts_of, fewest_roots, has_heap, random_bag, reached_of

# The bag of S6.9.
EXAMPLE = Bag(Book([("a", "red", ("red", "blue")), ("z", "blue", ())]), [("a", "a"), ("z", "z")])
BOOK = Book([("t", "red", ("blue", "red", "blue")), ("b", "blue", ("red",)), ("z", "blue", ()), ("r", "red", ())])
BAG = Bag(BOOK, [("z1", "z"), ("t1", "t"), ("b1", "b"), ("r1", "r"), ("z2", "z"), ("t2", "t")])
HEAP = (("t1", ("b1", ("t2", None, ("r1",), ("z1",))), None, None), ("z2",))


def is_told(bag, value):
    """Whether a value is a heap, by recursion."""
    names = []

    def is_part(part, colour):
        if type(part) is not tuple or not part or type(part[0]) is not str or part[0] not in bag.names():
            return False
        names.append(part[0])
        branches = bag.branches(part[0])
        if colour is not None and bag.stem(part[0]) != colour or len(part) != len(branches) + 1:
            return False
        return all(below is None or is_part(below, branch) for below, branch in zip(part[1:], branches))

    if type(value) not in (list, tuple) or not all(is_part(part, None) for part in value):
        return False
    return sorted(names) == sorted(bag.names())


def small_bags(draw, many):
    return [random_bag(draw, draw.randrange(7), shapes=draw.randrange(1, 5)) for _ in range(many)]


class TestIsHeap(Case):
    def test_right_ones(self):
        for value in (
            HEAP, list(HEAP), HEAP[::-1], [("r1",), ("z1",), ("z2",), ("b1", None), ("t1", None, None, None),
                                           ("t2", None, None, None)],
            (("t2", ("z2",), ("t1", ("b1", ("r1",)), None, None), ("z1",)),),
        ):
            self.assertIs(is_heap(BAG, value), True, value)
            self.assertTrue(is_told(BAG, value))

    def test_each_kind_of_wrong_part(self):
        rest = (("z2",), ("r1",), ("z1",), ("t2", None, None, None))
        good = (("t1", ("b1", None), None, None),)
        self.assertIs(is_heap(BAG, good + rest), True)
        for value in (
            rest, good, good + rest[1:], good + rest + (("z2",),), good + rest + good, good + rest + (None,),
            good + rest + ((),), good + rest + (("x",),), good + rest + ("z2",), good + rest[1:] + (["z2"],),
            good + rest[1:] + (("z2", None),), (("t1", ("b1",), None, None),) + rest,
            (("t1", ("b1", None), None),) + rest, (("t1", ("b1", None), None, None, None),) + rest,
            (("t1", ["b1", None], None, None),) + rest, (("t1", ("b1", ()), None, None),) + rest,
            (("t1", None, ("b1", None), None),) + rest, (("t1", ("b1", ("z2",)), None, None),) + rest[1:],
            (("t1", ("b1", ("t1", None, None, None)), None, None),) + rest, (["t1", ("b1", None), None, None],) + rest,
            (("t1", ("b1", None), False, None),) + rest, (("t1", ("b1", None), 0, None),) + rest,
            (("t1", "b1", None, None),) + rest, (("t", ("b", None), None, None),), ((None, ("b1", None), None, None),) + rest,
            ((["t1"], ("b1", None), None, None),) + rest, ((("t1",), ("b1", None), None, None),) + rest,
            (good + rest,), [good, rest], {"t1": good}, "t1", None,
        ):
            self.assertIs(is_heap(BAG, value), False, value)
            self.assertFalse(is_told(BAG, value))

    def test_values_of_every_kind(self):
        empty = Bag(BOOK, ())
        for value in anything():
            self.assertIs(is_heap(BAG, value), False)
            self.assertIs(is_heap(empty, value), type(value) in (list, tuple) and len(value) == 0)
            self.assertIs(is_heap(empty, [value]), False)
            self.assertIs(is_heap(BAG, HEAP[:1] + (value,)), False)
            self.assertIs(is_heap(BAG, (("t1", value, None, None), ("z2",))), False)
            self.assertIs(is_heap(BAG, ((value,) + HEAP[0][1:], ("z2",))), False)
        self.assertIs(is_heap(BAG, nested(69, "tuple")), False)

    def test_deep_heaps(self):
        book = Book([("b", "c", ("c",))])
        bag = Bag(book, [(f"b{k}", "b") for k in range(60)])
        bush = None
        for k in range(60):
            bush = (f"b{k}", bush)
        self.assertIs(is_heap(bag, [bush]), True)
        self.assertIs(is_heap(bag, [bush[1]]), False)
        self.assertEqual(open_places(bag, [bush]), [("b0", 0)])

    def test_bushes_in_every_order(self):
        bushes = [("t1", ("b1", None), None, ("z1",)), ("r1",), ("z2",), ("t2", None, None, None)]
        stems = {"t1": "red", "r1": "red", "z2": "blue", "t2": "red"}
        for value in itertools.permutations(bushes):
            self.assertIs(is_heap(BAG, value), True)
            self.assertIs(is_heap(BAG, list(value)), True)
            self.assertEqual(heap_roots(BAG, value), tuple(stems[bush[0]] for bush in value))
            self.assertEqual(open_places(BAG, value), [("t1", 1), ("b1", 0), ("t2", 0), ("t2", 1), ("t2", 2)])

    def test_roots_and_open_places(self):
        self.assertEqual(heap_roots(BAG, HEAP), ("red", "blue"))
        self.assertEqual(heap_roots(BAG, list(HEAP)[::-1]), ("blue", "red"))
        self.assertIs(type(heap_roots(BAG, list(HEAP))), tuple)
        # In the order of places, which is that of the bag and not of a walk.
        turned = (("t2", ("b1", None), None, ("z1",)), ("t1", None, ("r1",), None), ("z2",))
        self.assertIs(is_heap(BAG, turned), True)
        self.assertEqual(open_places(BAG, turned), [("t1", 0), ("t1", 2), ("b1", 0), ("t2", 1)])
        self.assertEqual(open_places(BAG, HEAP), [("t1", 1), ("t1", 2), ("t2", 0)])
        self.assertEqual(open_places(BAG, list(HEAP)), [("t1", 1), ("t1", 2), ("t2", 0)])
        empty = Bag(BOOK, ())
        self.assertEqual(heap_roots(empty, []), ())
        self.assertEqual(open_places(empty, ()), [])
        self.assert_new(lambda: open_places(BAG, HEAP))


class TestPacked(Case):
    def check(self, bag, roots):
        """Whether a heap is packed; what is told otherwise is checked."""
        if can_pack(bag, roots):
            told = packed(bag, roots)
            self.assertIs(type(told), list)
            self.assertTrue(is_told(bag, told), told)
            self.assertIs(is_heap(bag, told), True)
            self.assertEqual(heap_roots(bag, told), tuple(roots))
            self.assertEqual(packed(bag, list(roots)), told)
            many = len(places_of(bag, roots)) - len(bag.names())
            self.assertEqual(len(open_places(bag, told)), many)
            return True
        with self.assertRaises(Unbuilt) as caught:
            packed(bag, roots)
        error = caught.exception
        self.assertIs(type(error), Unbuilt)
        stems, branches, tops = counts_of(bag, roots)
        right = ("closed", tuple(reached_of(bag, roots)))
        for colour in sorted(stems)[::-1]:
            if tops[colour] > stems[colour]:
                right = ("many", colour)
            if tops[colour] < stems[colour] - branches[colour]:
                right = ("few", colour)
        self.assertEqual((error.word, error.value), right)
        self.assertIs(judge_heap_bar(bag, roots, right), True)
        return False

    def test_against_a_search(self):
        draw = random_source(121)
        words = {}
        for bag in small_bags(draw, 120):
            stems = [bag.stem(name) for name in bag.names()]
            for _ in range(4):
                roots = draw.sample(stems, draw.randrange(len(stems) + 1))
                if draw.random() < 0.2:
                    roots.append(draw.choice(COLOURS))
                can = has_heap(bag, roots)
                self.assertIs(can_pack(bag, roots), can, (bag.joints(), roots))
                self.assertIs(self.check(bag, roots), can)
                if not can:
                    with self.assertRaises(Unbuilt) as caught:
                        packed(bag, tuple(roots))
                    words[caught.exception.word] = True
        self.assertEqual(sorted(words), ["closed", "few", "many"])

    def test_by_hand(self):
        self.assertTrue(self.check(EXAMPLE, ["red"]))
        self.assertEqual(packed(EXAMPLE, ["red"]), [("a", None, ("z",))])
        self.assertTrue(self.check(EXAMPLE, ["red", "blue"]))
        self.assertTrue(self.check(EXAMPLE, ("blue", "red")))
        for roots, word, value in (
            ([], "closed", ()), (["blue"], "closed", ("blue",)), (["red", "red"], "many", "red"),
            (["blue", "blue"], "many", "blue"), (["green", "red"], "many", "green"), (["zz", "red", "red"], "many", "red"),
        ):
            self.assertFalse(self.check(EXAMPLE, roots))
            with self.assertRaises(Unbuilt) as caught:
                packed(EXAMPLE, roots)
            self.assertEqual((caught.exception.word, caught.exception.value), (word, value))
        # The first colour, whichever word it has.
        bag = Bag(Book([("b", "blue", ()), ("r", "red", ())]), [("b", "b"), ("r", "r")])
        for roots, word, value in (
            (["red", "red"], "few", "blue"), (["blue", "blue"], "many", "blue"), (["blue"], "few", "red"),
            (["blue", "red", "aa"], "many", "aa"), ([], "few", "blue"),
        ):
            with self.assertRaises(Unbuilt) as caught:
                packed(bag, roots)
            self.assertEqual((caught.exception.word, caught.exception.value), (word, value))

    def test_empty_bags(self):
        empty = Bag(BOOK, ())
        self.assertTrue(self.check(empty, []))
        self.assertEqual(packed(empty, ()), [])
        self.assertFalse(self.check(empty, ["red"]))

    def test_many_joints_and_branches(self):
        names = [f"c{k}" for k in range(12)]
        book = Book([(f"s{k}", names[k], (names[(k + 1) % 12],) + (names[k],) * 23) for k in range(12)])
        bag = Bag(book, [(f"j{k}", f"s{k % 12}") for k in range(60)])
        self.assertTrue(self.check(bag, ["c3"]))
        self.assertTrue(self.check(bag, names * 5))
        self.assertFalse(self.check(bag, names * 5 + ["c0"]))
        self.assertEqual(fewest(bag), 1)

    def test_what_is_passed_stays(self):
        heap = [("t1", ("b1", None), None, ("z1",)), ("r1",), ("z2",), ("t2", None, None, None)]
        known = list(heap)
        is_heap(BAG, heap)
        heap_roots(BAG, heap)
        open_places(BAG, heap)
        self.assertEqual(heap, known)

    def test_lists_are_new(self):
        roots = ["red"]
        self.assert_new(lambda: packed(EXAMPLE, roots))
        self.assert_new(lambda: packed_fewest(EXAMPLE))
        self.assert_new(lambda: surplus(BAG))
        self.assert_new(lambda: lots(EXAMPLE))
        self.assertEqual(roots, ["red"])


class TestJudgeHeapBar(Case):
    def test_all_bars_of_small_bags(self):
        """There is a heap bar exactly if there is no heap with these roots."""
        draw = random_source(122)
        for bag in small_bags(draw, 90):
            roots = [draw.choice(COLOURS) for _ in range(draw.randrange(4))]
            stems, branches, tops = counts_of(bag, roots)
            met = False
            for colour in stems:
                many = tops[colour] > stems[colour]
                few = tops[colour] < stems[colour] - branches[colour]
                self.assertIs(judge_heap_bar(bag, roots, ("many", colour)), many)
                self.assertIs(judge_heap_bar(bag, tuple(roots), ("few", colour)), few)
                met = met or many or few
            for size in range(len(stems) + 1):
                for colours in itertools.combinations(sorted(stems), size):
                    closed = set(roots) <= set(colours)
                    closed = closed and bool([name for name in bag.names() if bag.stem(name) not in colours])
                    for name in bag.names():
                        if bag.stem(name) in colours and not set(bag.branches(name)) <= set(colours):
                            closed = False
                    self.assertIs(judge_heap_bar(bag, roots, ("closed", colours)), closed)
                    met = met or closed
            self.assertIs(met, not can_pack(bag, roots))

    def test_values_of_every_kind(self):
        bag = Bag(Book([("b", "blue", ()), ("r", "red", ("green",))]), [("b", "b"), ("r", "r")])
        roots = ["red", "red"]
        self.assertIs(judge_heap_bar(bag, roots, ("many", "red")), True)
        self.assertIs(judge_heap_bar(bag, roots, ("few", "blue")), True)
        self.assertIs(judge_heap_bar(bag, roots, ("closed", ("green", "red"))), True)
        self.assertIs(judge_heap_bar(bag, roots, ("closed", ("green", "red", "zz"))), True)
        for value in anything():
            self.assertIs(judge_heap_bar(bag, roots, value), False)
            for word in ("many", "few", "closed"):
                self.assertIs(judge_heap_bar(bag, roots, (word, value)), False, value)
            for thing in ("red", "blue", ("green", "red")):
                self.assertIs(judge_heap_bar(bag, roots, (value, thing)), False)
        for value in (
            ["many", "red"], ("many",), ("many", "red", "red"), ("many", ["red"]), ("many", ("red",)), ("colour", "blue"),
            ("many", "zz"), ("few", "zz"), ("few", "red"), ("many", "blue"), ["closed", ("green", "red")],
            ("closed", ["green", "red"]), ("closed", ("red", "green")), ("closed", ("green", "green", "red")),
            ("closed", ("green", "red"), 0), ("closed", "red"), ("closed", ("green", "red", 1)), ("closed",),
        ):
            self.assertIs(judge_heap_bar(bag, roots, value), False, value)
        self.assertEqual(roots, ["red", "red"])


class TestFewest(Case):
    def test_surplus(self):
        self.assertEqual(surplus(EXAMPLE), [])
        self.assertEqual(surplus(Bag(BOOK, ())), [])
        bag = Bag(BOOK, [("z1", "z"), ("z2", "z"), ("b", "b"), ("r1", "r"), ("r2", "r"), ("r3", "r")])
        self.assertEqual(surplus(bag), [("blue", 3), ("red", 2)])
        for bag in small_bags(random_source(123), 80):
            stems, branches, _ = counts_of(bag, ())
            right = [(each, stems[each] - branches[each]) for each in sorted(stems) if stems[each] > branches[each]]
            self.assertEqual(surplus(bag), right)

    def test_lots_against_a_search(self):
        many = {}
        draw = random_source(124)
        for _ in range(400):
            bag = random_bag(draw, draw.randrange(8), COLOURS, draw.randrange(1, 5))
            told = lots(bag)
            self.assertEqual(told, all_lots(bag), bag.joints())
            for lot in told:
                self.assertIs(type(lot), tuple)
                many[(len(lot), len(told))] = True
            for size in range(5):
                for colours in itertools.combinations(COLOURS, size):
                    self.assertIs(judge_lot(bag, colours), colours in told)
                    if size > 1:
                        self.assertIs(judge_lot(bag, colours[::-1]), False)
        self.assertTrue([1 for size, number in many if size > 1])
        self.assertTrue([1 for size, number in many if number > 1])

    def test_lots_by_hand(self):
        self.assertEqual(lots(EXAMPLE), [("red",)])
        self.assertEqual(lots(Bag(BOOK, ())), [])
        book = Book([("x", "blue", ("red",)), ("y", "red", ("blue",)), ("w", "white", ("white", "green")), ("g", "green", ())])
        bag = Bag(book, [("x", "x"), ("y", "y"), ("w", "w"), ("g", "g")])
        self.assertEqual(lots(bag), [("blue", "red"), ("white",)])
        self.assertEqual(fewest(bag), 2)
        # By their first colours, not by their last ones.
        shapes = [("k", "a", ("d",)), ("l", "d", ("a",)), ("m", "b", ("c",)), ("n", "c", ("b",))]
        self.assertEqual(lots(Bag(Book(shapes), [(row[0], row[0]) for row in shapes])), [("a", "d"), ("b", "c")])

    def test_judge_lot_of_anything(self):
        for value in anything() + [["red"], ("blue",), ("red", "red"), (), ("red", "zz"), "red", (("red",),), ("red", 1)]:
            self.assertIs(judge_lot(EXAMPLE, value), False, value)
        self.assertIs(judge_lot(EXAMPLE, ("red",)), True)
        self.assertIs(judge_lot(Bag(BOOK, ()), ()), False)

    def test_no_heap_has_fewer_bushes(self):
        draw = random_source(125)
        for _ in range(120):
            bag = random_bag(draw, draw.randrange(7), COLOURS, draw.randrange(1, 5))
            right = fewest_roots(bag)
            self.assertEqual(fewest(bag), right, bag.joints())
            self.assertIs(type(fewest(bag)), int)
            told = packed_fewest(bag)
            self.assertIs(type(told), list)
            self.assertTrue(is_told(bag, told))
            self.assertEqual(len(told), right)

    def test_the_example(self):
        self.assertEqual(fewest(EXAMPLE), 1)
        self.assertEqual(packed_fewest(EXAMPLE), [("a", None, ("z",))])
        self.assertEqual(packed_fewest(Bag(BOOK, ())), [])
        self.assertEqual(fewest(Bag(BOOK, ())), 0)

    def test_sixty_joints(self):
        draw = random_source(126)
        for _ in range(10):
            bag = random_bag(draw, 60, [f"c{k}" for k in range(15)], 24, 5)
            told = packed_fewest(bag)
            self.assertIs(is_heap(bag, told), True)
            self.assertEqual(len(told), fewest(bag))
            leaves = sum(many for _, many in surplus(bag))
            self.assertEqual(fewest(bag), leaves + len(lots(bag)))


if __name__ == "__main__":
    unittest.main()
