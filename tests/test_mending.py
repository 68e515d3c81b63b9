"""bushcoins.mending: S6.6 to S6.9."""

import itertools
import unittest

from bushcoins.assemblies import Assembly, assembly_of
from bushcoins.bags import Bag
from bushcoins.books import Book
from bushcoins.building import can_build
from bushcoins.errors import BadDeed, Unbuilt
from bushcoins.mending import exchanged, exchanged_all, judge_knot, judge_mending, mended, mended_anyhow
from tests.lands import mixed_grove
from tests.samples import Case, anything, no_places, random_source, sample_grove
from tests.searches import Standing, balanced_bag, random_assembly, reached_of

# The first example of S6.9.
BOOK = Book([("p", "red", ()), ("q", "red", ("blue",)), ("z", "blue", ()), ("b", "blue", ("blue", "red"))])
BAG = Bag(BOOK, [("p", "p"), ("q", "q"), ("z", "z"), ("b", "b")])
TABLE = [(("root", 0), "p"), (("b", 0), "b"), (("b", 1), "q"), (("q", 0), "z")]


def example():
    return Assembly(BAG, ("red",), TABLE)


def standing_of(assembly):
    return Standing(assembly.bag(), assembly.roots(), assembly.table())


# A root has a joint without branches at first; of each of the other colours there are joints with branches, and without.
KNOTTY = Book(BOOK.shapes() + [("y", "blue", ("green",)), ("g", "green", ("green", "red")), ("x", "green", ())])


def assemblies(draw, many, least=0, most=6):
    """Random assemblies, those with several rings and those with knots among them."""
    found = []
    for k in range(many):
        book = KNOTTY if k % 2 else None
        bag, roots = balanced_bag(draw, draw.randrange(least, most + 1), branches=1 + k % 3, book=book)
        found.append(random_assembly(draw, bag, roots))
    return found


def tower(many):
    """Rings that come to the first piece one through the other only: each has a place of the colour of the next one."""
    names = [f"c{k}" for k in range(many + 1)]
    shapes = [("top", "c0", ("c0",)), ("end", "c0", ())]
    joints = [("top", "top"), ("end", "end")]
    table = [(("root", 0), "top"), (("top", 0), "end")]
    for k in range(1, many + 1):
        # The ring of j has the colours of this step and of the one before it.
        shapes += [(f"u{k}", names[k - 1], (names[k],)), (f"v{k}", names[k], (names[k - 1],))]
        joints += [(f"u{k}", f"u{k}"), (f"v{k}", f"v{k}")]
        table += [((f"u{k}", 0), f"v{k}"), ((f"v{k}", 0), f"u{k}")]
    return Assembly(Bag(Book(shapes), joints[::-1]), ("c0",), table)


class TestExchanged(Case):
    def test_by_hand(self):
        told = exchanged(example(), ("root", 0), ("b", 1))
        self.assertIs(type(told), Assembly)
        self.assertEqual(told.bag(), BAG)
        self.assertEqual(told.roots(), ("red",))
        self.assertEqual(told.table(), [
            (("root", 0), "q"), (("q", 0), "z"), (("b", 0), "b"), (("b", 1), "p"),
        ])
        self.assertEqual(exchanged(example(), ("b", 1), ("root", 0)), told)
        self.assertEqual(exchanged(told, ("b", 1), ("root", 0)), example())

    def test_all_exchanges_of_random_assemblies(self):
        for assembly in assemblies(random_source(131), 60):
            standing = standing_of(assembly)
            for s, t in itertools.product(list(standing.table), repeat=2):
                if s != t and standing.colour(s) == standing.colour(t):
                    right = standing.behind((s, t)).table
                    self.assertEqual(dict(exchanged(assembly, s, t).table()), right)
                else:
                    self.check_bad(assembly, s, t)

    def check_bad(self, assembly, s, t):
        for call in (lambda: exchanged(assembly, s, t), lambda: exchanged_all(assembly, [(s, t)])):
            with self.assertRaises(BadDeed) as caught:
                call()
            self.assertIs(type(caught.exception), BadDeed)
            self.assertIs(type(caught.exception.number), int)
            self.assertEqual(caught.exception.number, 0)

    def test_values_that_are_no_places(self):
        assembly = example()
        for value in no_places("q"):
            self.check_bad(assembly, value, ("q", 0))
            self.check_bad(assembly, ("q", 0), value)
            self.check_bad(assembly, value, value)
            self.check_bad(assembly, ("root", 0), value)
        # A place with itself, and two colours.
        self.check_bad(assembly, ("q", 0), ("q", 0))
        self.check_bad(assembly, ("root", 0), ("b", 0))
        self.check_bad(assembly, ("b", 1), ("b", 0))

    def test_one_after_the_other(self):
        first, second = (("root", 0), ("b", 1)), (("q", 0), ("b", 0))
        told = exchanged_all(example(), [first, second])
        self.assertEqual(told.grove().bushes(), [("q", ("b", ("z",), ("p",)))])
        self.assertEqual(exchanged_all(example(), (first, second)), told)
        self.assertEqual(exchanged_all(example(), []), example())
        self.assertEqual(exchanged_all(example(), ()), example())
        self.assertEqual(exchanged_all(example(), [first, first]), example())
        draw = random_source(132)
        for assembly in assemblies(draw, 40, 3):
            standing = standing_of(assembly)
            pairs = standing.exchanges()
            script = [draw.choice(pairs) for _ in range(6)] if pairs else []
            known = list(script)
            for pair in script:
                standing = standing.behind(pair)
            self.assertEqual(dict(exchanged_all(assembly, script).table()), standing.table)
            self.assertEqual(script, known)

    def test_the_number_of_the_first_bad_one(self):
        good = (("root", 0), ("b", 1))
        for value in anything() + [
            good + (0,), good[:1], list(good), (good,), [good], (("root", 0), ["b", 1]), (["root", 0], ("b", 1)),
            (("root", False), ("b", 1)), (("root", 0), ("b", True)), (("root", 0), ("root", 0)),
            (("root", 0), ("b", 0)), (("root", 0), ("b", 2)), (("root", 0), ("b", -1)), ({}, good[0]), "ab",
        ]:
            for k in range(3):
                for rest in ([], [good], [None]):
                    for script in ([good] * k + [value] + rest, tuple([good] * k + [value] + rest)):
                        with self.assertRaises(BadDeed) as caught:
                            exchanged_all(example(), script)
                        self.assertIs(type(caught.exception.number), int)
                        self.assertEqual(caught.exception.number, k)

    def test_the_assembly_stays(self):
        assembly = example()
        exchanged(assembly, ("root", 0), ("b", 1))
        mended_anyhow(assembly)
        self.assertEqual(assembly, example())
        self.assertEqual(assembly.table(), example().table())


class TestMended(Case):
    def check(self, assembly):
        """Whether it is mended with as many exchanges as rings; the knot that is told otherwise is checked."""
        standing = standing_of(assembly)
        rings = standing.ring_sets()
        knots = standing.knots()
        if not knots:
            told = mended(assembly)
            self.assertIs(type(told), list)
            self.assertEqual(len(told), len(rings))
            for pair in told:
                self.assertIs(type(pair), tuple)
                standing = standing.behind(pair)
            self.assertTrue(standing.is_grove())
            self.assertIs(judge_mending(assembly, told), True)
            self.assertIs(judge_mending(assembly, tuple(told)), True)
            self.assertEqual(mended(assembly), told)
            return True
        with self.assertRaises(Unbuilt) as caught:
            mended(assembly)
        error = caught.exception
        self.assertIs(type(error), Unbuilt)
        self.assertEqual(error.word, "knot")
        self.assertIs(type(error.value), tuple)
        # The rings from whose pieces one does not come to the first piece: the greatest knot, all others within it.
        come, steps = {0}, standing.steps()
        while [k for k, piece in steps if piece in come and k + 1 not in come]:
            come |= {k + 1 for k, piece in steps if piece in come}
        self.assertEqual(error.value, tuple(k for k in range(len(rings)) if k + 1 not in come))
        self.assertIn(error.value, knots)
        self.assertIs(judge_knot(assembly, error.value), True)
        return False

    def test_random_assemblies(self):
        met = {}
        for assembly in assemblies(random_source(133), 400, 1):
            can = self.check(assembly)
            met[(can, min(len(assembly.rings()), 2))] = True
        self.assertEqual(sorted(met), [(False, 1), (False, 2), (True, 0), (True, 1), (True, 2)])

    def test_no_mending_has_as_many_where_there_is_a_knot(self):
        """S6.7, against a search through all exchanges."""
        met = {}
        for assembly in assemblies(random_source(134), 150, 1, 5):
            rings = len(assembly.rings())
            can = self.check(assembly)
            self.assertIs(standing_of(assembly).can_mend(rings), can)
            met[can] = True
        self.assertEqual(len(met), 2)

    def test_rings_that_come_to_the_first_piece_one_through_the_other(self):
        for many in (1, 2, 3, 6, 12, 29):
            assembly = tower(many)
            self.assertEqual(len(assembly.rings()), many)
            told = mended(assembly)
            self.assertEqual(len(told), many)
            self.assertIs(judge_mending(assembly, told), True)
        self.assertTrue(self.check(tower(4)))

    def test_no_ring_at_all(self):
        for grove in (sample_grove(), mixed_grove()):
            assembly = assembly_of(grove)
            self.assertEqual(mended(assembly), [])
            self.assertEqual(mended_anyhow(assembly), [])
            self.assertIs(judge_mending(assembly, []), True)
            self.assertIs(judge_knot(assembly, ()), False)
            self.assertIs(judge_knot(assembly, (0,)), False)
        empty = Assembly(Bag(BOOK, ()), (), ())
        self.assertEqual(mended(empty), [])
        self.assertEqual(mended_anyhow(empty), [])

    def test_no_roots(self):
        bag = Bag(Book([("b", "blue", ("blue",))]), [("b", "b"), ("d", "b")])
        for table in ([(("b", 0), "d"), (("d", 0), "b")], [(("b", 0), "b"), (("d", 0), "d")]):
            assembly = Assembly(bag, (), table)
            with self.assertRaises(Unbuilt) as caught:
                mended(assembly)
            self.assertEqual((caught.exception.word, caught.exception.value), ("knot", tuple(range(len(assembly.rings())))))
            with self.assertRaises(Unbuilt) as caught:
                mended_anyhow(assembly)
            self.assertEqual((caught.exception.word, caught.exception.value), ("closed", ()))

    def test_sixty_joints(self):
        book = Book([("x", "c0", ("c1",)), ("y", "c1", ("c1",)), ("z", "c1", ())])
        bag = Bag(book, [(f"y{k}", "y") for k in range(58)] + [("x", "x"), ("z", "z")])
        rows = [(("root", 0), "x"), (("x", 0), "z")] + [((f"y{k}", 0), f"y{k}") for k in range(58)]
        assembly = Assembly(bag, ("c0",), rows)
        self.assertEqual(len(mended(assembly)), 58)
        self.assertIs(judge_mending(assembly, mended(assembly)), True)
        draw = random_source(135)
        for _ in range(5):
            bag, roots = balanced_bag(draw, 60, shapes=8, branches=2)
            assembly = random_assembly(draw, bag, roots)
            self.check_anyhow(assembly)

    def check_anyhow(self, assembly):
        """mended_anyhow leads to a grove within the number of S6.8, or raises what built raises."""
        bag, roots = assembly.bag(), assembly.roots()
        if can_build(bag, roots):
            told = mended_anyhow(assembly)
            self.assertIs(type(told), list)
            colours = {bag.stem(name) for name in bag.names()}
            self.assertLessEqual(len(told), len(colours) * len(assembly.rings()))
            self.assertIsNotNone(exchanged_all(assembly, told).grove())
            self.assertEqual(mended_anyhow(assembly), told)
            return len(told)
        with self.assertRaises(Unbuilt) as caught:
            mended_anyhow(assembly)
        told = (caught.exception.word, caught.exception.value)
        self.assertEqual(told, ("closed", tuple(reached_of(bag, roots))))
        self.assertIs(type(caught.exception), Unbuilt)
        return None

    def test_anyhow(self):
        met = {}
        for assembly in assemblies(random_source(136), 500, 0, 9):
            told = self.check_anyhow(assembly)
            knotted = bool(standing_of(assembly).knots())
            met[(knotted, told is None)] = True
            if told is not None:
                self.assertGreaterEqual(told, len(assembly.rings()))
        self.assertTrue(met[(True, False)])
        self.assertTrue(met[(True, True)])
        self.assertTrue(met[(False, False)])

    def test_anyhow_with_long_chains_of_colours(self):
        """The first piece has the first colour only; the ring is at the other end of a chain that hangs at another ring."""
        for many in (2, 3, 5, 9):
            names = [f"c{k}" for k in range(many + 1)]
            shapes = [("top", "c0", ())]
            joints = [("top", "top")]
            table = [(("root", 0), "top")]
            shapes.append(("ring", names[many], tuple(names[:many]) + (names[many],)))
            joints.append(("ring", "ring"))
            table.append((("ring", many), "ring"))
            for k in range(many):
                shapes += [(f"s{k}", names[k], (names[k + 1],)), (f"e{k}", names[k + 1], ())]
                joints += [(f"s{k}", f"s{k}"), (f"e{k}", f"e{k}")]
                table += [(("ring", k), f"s{k}"), ((f"s{k}", 0), f"e{k}")]
            for order in (joints, joints[::-1]):
                assembly = Assembly(Bag(Book(shapes), order), ("c0",), table)
                self.assertEqual(len(assembly.rings()), 1)
                self.assertFalse(self.check(assembly))
                told = self.check_anyhow(assembly)
                self.assertIsNotNone(told)
                self.assertGreater(told, 1)

    def test_the_example(self):
        with self.assertRaises(Unbuilt) as caught:
            mended(example())
        self.assertEqual((caught.exception.word, caught.exception.value), ("knot", (0,)))
        told = mended_anyhow(example())
        self.assertEqual(len(told), 2)
        self.assertEqual(exchanged_all(example(), told).grove().bushes(), [("q", ("b", ("z",), ("p",)))])

    def test_lists_are_new(self):
        assembly = tower(3)
        self.assert_new(lambda: mended(assembly))
        self.assert_new(lambda: mended_anyhow(assembly))
        self.assert_new(lambda: mended(assembly_of(sample_grove())))


class TestJudgeMending(Case):
    def test_all_short_lists(self):
        for assembly in assemblies(random_source(137), 40, 2, 5):
            standing = standing_of(assembly)
            rings = len(assembly.rings())
            if rings > 2:
                continue
            for many in (0, 1, 2):
                for script in itertools.product(standing.exchanges(), repeat=many):
                    behind = standing
                    for pair in script:
                        behind = behind.behind(pair)
                    right = many == rings and behind.is_grove()
                    self.assertIs(judge_mending(assembly, script), right)
                    self.assertIs(judge_mending(assembly, [pair[::-1] for pair in script]), right)

    def test_values_of_every_kind(self):
        assembly = tower(1)
        good = mended(assembly)
        (pair,) = good
        s, t = pair
        self.assertIs(judge_mending(assembly, good), True)
        for value in anything():
            self.assertIs(judge_mending(assembly, value), False)
            self.assertIs(judge_mending(assembly, [value]), False)
            self.assertIs(judge_mending(assembly, [(value, t)]), False)
            self.assertIs(judge_mending(assembly, [(s, value)]), False)
        for value in (
            [], (), [pair, pair], [pair] * 3, [list(pair)], [(list(s), t)], [(s, list(t))], [(s, t, t)], [(s,)], pair,
            [(s, s)], [(t, t)], {0: pair}, (pair, None), [((s[0], bool(s[1])), t)], [(s, (t[0], False))], [[s, t]],
        ):
            self.assertIs(judge_mending(assembly, value), False, value)

    def test_longer_mendings_are_not_right(self):
        told = mended_anyhow(example())
        self.assertIsNotNone(exchanged_all(example(), told).grove())
        self.assertIs(judge_mending(example(), told), False)
        self.assertIs(judge_mending(example(), told[:1]), False)
        assembly = tower(2)
        good = mended(assembly)
        self.assertIs(judge_mending(assembly, good + [good[0]] * 2), False)
        self.assertIs(judge_mending(assembly, [good[0], good[0]]), False)
        self.assertIs(judge_mending(assembly, good[:1]), False)


class TestJudgeKnot(Case):
    def test_all_tuples_of_rings(self):
        met = {}
        for assembly in assemblies(random_source(138), 200, 1):
            standing = standing_of(assembly)
            knots = standing.knots()
            numbers = range(len(standing.ring_sets()))
            for many in range(len(numbers) + 1):
                for value in itertools.combinations(numbers, many):
                    right = value in knots
                    self.assertIs(judge_knot(assembly, value), right)
                    self.assertIs(judge_knot(assembly, list(value)), False)
                    if many > 1:
                        self.assertIs(judge_knot(assembly, value[::-1]), False)
                    met[(right, many)] = True
        self.assertTrue(met.get((True, 2)) and met.get((False, 2)))

    def test_values_of_every_kind(self):
        bag = Bag(Book([("b", "blue", ("blue",)), ("r", "red", ("red",)), ("g", "green", ())]),
                  [("b", "b"), ("r", "r"), ("g", "g")])
        assembly = Assembly(bag, ("green",), [(("root", 0), "g"), (("b", 0), "b"), (("r", 0), "r")])
        for value in ((0,), (1,), (0, 1)):
            self.assertIs(judge_knot(assembly, value), True)
        for value in anything() + [
            (0, 0), (1, 0), (0, 1, 1), (0, 1, 2), (2,), (-1,), (True,), (False,), (0, True), (False, 1), (0, None), ("0",),
            ((0,),), [0], [0, 1], (), 0, (0, 10 ** 39), (0, "1"), {0: 1}, (-1, 0), ([0],), (0, [1]),
            (-1, 0, 1), (-2, -1, 0, 1), (-2, -1),
        ]:
            if type(value) is tuple and [type(each) for each in value] in ([int], [int, int]) and value in ((0,), (1,), (0, 1)):
                continue
            self.assertIs(judge_knot(assembly, value), False, value)

    def test_the_example(self):
        self.assertIs(judge_knot(example(), (0,)), True)
        self.assertIs(judge_knot(example(), (1,)), False)
        self.assertIs(judge_knot(tower(3), (0,)), False)
        self.assertIs(judge_knot(tower(3), (0, 1, 2)), False)


if __name__ == "__main__":
    unittest.main()
