"""bushcoins.looks: S9.3 and S9.4."""

import unittest

from bushcoins.books import Book
from bushcoins.counting import count_plain
from bushcoins.deeds import all_deeds, done
from bushcoins.errors import UnknownName
from bushcoins.groves import Grove
from bushcoins.looks import (
    alike_many, alike_way, alone_depth, are_alike, keeps_looks, look, look_book, looks, unlike_look,
)
from bushcoins.plain import check_plain, named, plain_of, stock_of
from bushcoins.stocks import paths, words_of
from tests.every import PLAIN_KINDS, every_plain
from tests.lands import PLAIN_BOOK, countries, large_grove
from tests.samples import Case, anything, random_plain, random_source, sample_book, wide_book

PLAIN = Book(PLAIN_BOOK)
CHAIN = (("b", ("b", ("b", ("z",)))),)


def own_looks(book, bushes, depth):
    """The looks of all joints in the order of a walk, from those of one depth less on."""
    walk = []

    def go(bush):
        number = len(walk)
        walk.append([bush[0]])
        walk[number] += [go(part) for part in bush[1:]]
        return number

    for bush in bushes:
        go(bush)
    found = [book.stem(row[0]) for row in walk]
    for _ in range(depth):
        found = [(row[0],) + tuple(found[number] for number in row[1:]) for row in walk]
    return found


def root_looks(book, bushes, depth):
    return [own_looks(book, (bush,), depth)[0] for bush in bushes]


def own_alike(book, one, other, depth):
    """By the words of S9.3."""
    ones, others = own_looks(book, one, depth), own_looks(book, other, depth)
    if sorted(ones.count(each) for each in ones) != sorted(others.count(each) for each in others):
        return False
    if any(ones.count(each) != others.count(each) for each in ones + others):
        return False
    return root_looks(book, one, depth - 1) == root_looks(book, other, depth - 1)


def some_pairs():
    """Books, roots and pairs of plain groves of one stock."""
    found = []
    for book, stock, roots in PLAIN_KINDS:
        groves = every_plain(book, stock, roots)[:12]
        found += [(book, roots, one, other) for one in groves for other in groves]
    return found


class TestLook(Case):
    def test_by_hand(self):
        grove = (("a", ("b", ("b", ("z",))), ("z",)),)
        self.assertEqual(look(sample_book(), grove, (0,), 0), "red")
        self.assertEqual(look(sample_book(), grove, (0, 1), 0), "blue")
        self.assertEqual(look(sample_book(), grove, (0,), 1), ("a", "blue", "blue"))
        self.assertEqual(look(sample_book(), grove, (0,), 2), ("a", ("b", "blue"), ("z",)))
        self.assertEqual(look(sample_book(), grove, (0,), 3), ("a", ("b", ("b", "blue")), ("z",)))
        for depth in (4, 5, 12):
            self.assertEqual(look(sample_book(), grove, (0,), depth), grove[0])
        self.assertEqual(look(sample_book(), list(grove), (0, 0), 1), ("b", "blue"))
        self.assertEqual(look(sample_book(), grove, (0, 1), 1), ("z",))

    def test_all_depths(self):
        draw = random_source(271)
        for book in (wide_book(), PLAIN):
            for _ in range(10):
                roots = ("wood", "leaf", "wood") if book is not PLAIN else ("c", "c")
                grove = random_plain(draw, book, roots, 16)
                for depth in range(7):
                    right = own_looks(book, grove, depth)
                    self.assertEqual([look(book, grove, path, depth) for path in paths(grove)], right)
                    if depth:
                        several = []
                        for each in right:
                            if (each, right.count(each)) not in several:
                                several.append((each, right.count(each)))
                        self.assertEqual(looks(book, grove, depth), several)
                        self.assertEqual(looks(book, list(grove), depth), several)

    def test_values_that_are_no_paths(self):
        grove = (("a", ("b", ("z",)), ("z",)),)
        bad = [each for each in anything() if each != (0, 0)]
        bad += [(0, 0, 0, 0), (0, 2), (0, -1), (1,), (-1,), (True,), (False,), (0, False), (0, True), [0], [0, 0]]
        bad += [("0",), (0, [0]), (0, None), ((0,),), 0, "0", {0: 0}, (0, 1, 0), (0, 0, 1)]
        for value in bad:
            for depth in (0, 1, 3):
                self.assert_unknown(UnknownName, value, look, sample_book(), grove, value, depth)
        self.assert_unknown(UnknownName, (), look, sample_book(), grove, (), 1)
        path = (0,)
        self.assert_unknown(UnknownName, path, look, sample_book(), (), path, 1)

    def test_lists_are_new(self):
        grove = [("a", ("b", ("z",)), ("z",))]
        self.assert_new(lambda: looks(sample_book(), grove, 2))
        self.assertEqual(looks(sample_book(), grove, 1), [(("a", "blue", "blue"), 1), (("b", "blue"), 1), (("z",), 2)])
        for row in looks(sample_book(), grove, 2):
            self.assertEqual([type(row), type(row[0]), type(row[1])], [tuple, tuple, int])
        self.assertEqual(looks(sample_book(), (), 1), [])
        self.assertEqual(grove, [("a", ("b", ("z",)), ("z",))])


class TestAlike(Case):
    def test_against_another_look(self):
        met = set()
        for book, roots, one, other in some_pairs():
            for depth in (1, 2, 3):
                right = own_alike(book, one, other, depth)
                self.assertIs(are_alike(book, one, other, depth), right)
                self.assertIs(are_alike(book, list(one), list(other), depth), right)
                self.check_unlike(book, one, other, depth, right)
                met.add((depth, right, one == other))
        self.assertGreater(len(met), 6, met)

    def check_unlike(self, book, one, other, depth, alike):
        told = unlike_look(book, one, other, depth)
        if alike:
            self.assertIsNone(told)
            return
        ones, others = own_looks(book, one, depth), own_looks(book, other, depth)
        for each in ones + others:
            if ones.count(each) != others.count(each):
                self.assertEqual(told, ("look", each, ones.count(each), others.count(each)))
                return
        k = [a == b for a, b in zip(root_looks(book, one, depth - 1), root_looks(book, other, depth - 1))].index(False)
        self.assertEqual(told, ("root", k))
        self.assertEqual([type(told), type(told[1])], [tuple, int])

    def test_other_stocks(self):
        """Groves of other stocks are unlike of each depth; the first look can be one of the other grove alone."""
        one, other = (("z",), ("z",)), (("z",), ("b", ("z",)))
        self.assertEqual(unlike_look(PLAIN, one, other, 1), ("look", ("b", "c"), 0, 1))
        self.assertEqual(unlike_look(PLAIN, other, one, 1), ("look", ("b", "c"), 1, 0))
        self.assertEqual(unlike_look(PLAIN, other, one, 2), ("look", ("b", ("z",)), 1, 0))
        self.assertIs(are_alike(PLAIN, one, other, 1), False)
        three = (("t", ("z",), ("z",)), ("z",))
        self.assertEqual(unlike_look(PLAIN, one, three, 1), ("look", ("z",), 2, 3))
        self.assertEqual(unlike_look(PLAIN, other, three, 1), ("look", ("z",), 2, 3))
        self.assertEqual(unlike_look(PLAIN, (("b", ("z",)), ("z",)), three, 1), ("look", ("b", "c"), 1, 0))
        # Equal stocks alone are alike of depth 1.
        self.assertIs(are_alike(PLAIN, (("b", ("z",)), ("z",)), other, 1), True)

    def test_roots_alone_that_differ(self):
        one, other = (("z",), ("b", ("z",)), ("z",)), (("z",), ("z",), ("b", ("z",)))
        self.assertIsNone(unlike_look(PLAIN, one, other, 1))
        self.assertEqual(unlike_look(PLAIN, one, other, 2), ("root", 1))
        self.assertEqual(unlike_look(PLAIN, one, other, 3), ("root", 1))
        self.assertIs(are_alike(PLAIN, one, other, 2), False)
        self.assertIs(are_alike(PLAIN, one, one, 12), True)
        self.assertIs(are_alike(PLAIN, (), (), 1), True)

    def test_alike_of_lower_depths(self):
        met = {}
        for book, roots, one, other in some_pairs():
            depths = [are_alike(book, one, other, depth) for depth in range(1, 7)]
            self.assertEqual(depths, sorted(depths, reverse=True))
            self.assertIs(depths[0], True)
            met[depths.count(True)] = met.get(depths.count(True), 0) + 1
        self.assertGreater(len(met), 2, met)


class TestLookBook(Case):
    def test_by_hand(self):
        grove = (("a", ("b", ("b", ("z",))), ("z",)),)
        book, roots, bushes = look_book(sample_book(), grove, 1)
        self.assertEqual(book.shapes(), [("l0", "c0", ("c1", "c1")), ("l1", "c1", ("c1",)), ("l2", "c1", ())])
        self.assertEqual((roots, bushes), (("c0",), (("l0", ("l1", ("l1", ("l2",))), ("l2",)),)))
        book, roots, bushes = look_book(sample_book(), grove, 2)
        self.assertEqual(book.shapes(), [
            ("l0", "c0", ("c1", "c2")), ("l1", "c1", ("c1",)), ("l2", "c1", ("c2",)), ("l3", "c2", ()),
        ])
        self.assertEqual((roots, bushes), (("c0",), (("l0", ("l1", ("l2", ("l3",))), ("l3",)),)))
        book, roots, bushes = look_book(sample_book(), (), 3)
        self.assertEqual((book.shapes(), roots, bushes), ([], (), ()))

    def own_book(self, book, grove, depth):
        """The shapes by the words of S9.4."""
        upper, lower = own_looks(book, grove, depth), own_looks(book, grove, depth - 1)
        words = [each for k, each in enumerate(upper) if each not in upper[:k]]
        colours = [each for k, each in enumerate(lower) if each not in lower[:k]]
        shapes = []
        for k, each in enumerate(words):
            number = upper.index(each)
            parts = each[1:]
            stem = lower[number]
            shapes.append((f"l{k}", f"c{colours.index(stem)}", tuple(f"c{colours.index(part)}" for part in parts)))
        return shapes, [f"l{words.index(each)}" for each in upper]

    def test_all_depths(self):
        draw = random_source(272)
        for book, roots in ((wide_book(), ("wood", "leaf", "wood")), (PLAIN, ("c", "c")), (sample_book(), ("red",))):
            for _ in range(8):
                grove = random_plain(draw, book, roots, 14)
                for depth in range(1, 8):
                    told = look_book(book, grove, depth)
                    self.assertEqual([type(told)] + [type(each) for each in told], [tuple, Book, tuple, tuple])
                    other, tops, bushes = told
                    shapes, words = self.own_book(book, grove, depth)
                    self.assertEqual(other.shapes(), shapes)
                    self.assertEqual(words_of(bushes), words)
                    check_plain(other, tops, bushes)
                    self.assertEqual(look_book(book, list(grove), depth), told)

    def test_many_colours(self):
        grove = CHAIN
        for _ in range(20):
            grove = (("b", grove[0]),)
        book, roots, bushes = look_book(PLAIN, grove, 12)
        self.assertEqual(len(book.shapes()), 13)
        self.assertEqual(alike_many(PLAIN, grove, 12), 1)
        book, roots, bushes = look_book(PLAIN, (("t", grove[0], ("b", ("t", ("z",), ("z",)))),), 12)
        self.assertEqual(alike_many(PLAIN, (("t", grove[0], ("b", ("t", ("z",), ("z",)))),), 12), 1)


class TestCounts(Case):
    def test_against_all_plain_groves(self):
        for book, stock, roots in PLAIN_KINDS:
            groves = every_plain(book, stock, roots)
            for grove in groves[::3]:
                numbers = []
                for depth in range(1, 6):
                    right = len([1 for other in groves if own_alike(book, grove, other, depth)])
                    told = alike_many(book, grove, depth)
                    self.assertIs(type(told), int)
                    self.assertEqual(told, right)
                    self.assertEqual(alike_many(book, list(grove), depth), right)
                    numbers.append(right)
                self.assertEqual(numbers[0], count_plain(book, stock, roots))
                self.assertEqual(alone_depth(book, grove), self.first_alone(book, grove, groves))
                self.assertEqual(alone_depth(book, list(grove)), self.first_alone(book, grove, groves))

    def first_alone(self, book, grove, groves):
        depth = 1
        while [other for other in groves if other != grove and own_alike(book, grove, other, depth)]:
            depth += 1
        return depth

    def test_by_hand(self):
        self.assertEqual(alone_depth(PLAIN, ()), 1)
        self.assertEqual(alone_depth(PLAIN, CHAIN), 1)
        self.assertEqual(alike_many(PLAIN, CHAIN, 1), 1)
        self.assertEqual(alike_many(PLAIN, (), 1), 1)
        self.assertIs(type(alone_depth(PLAIN, CHAIN)), int)

    def test_not_above_the_height(self):
        draw = random_source(273)
        met = set()
        for _ in range(30):
            grove = random_plain(draw, PLAIN, ("c", "c"), 20)
            depth = alone_depth(PLAIN, grove)
            self.assertEqual(alike_many(PLAIN, grove, depth), 1)
            self.assertTrue(depth == 1 or alike_many(PLAIN, grove, depth - 1) > 1)
            self.assertLessEqual(depth, max(len(path) for path in paths(grove)) + 1)
            met.add(depth)
        self.assertGreater(len(met), 2)

    def test_one_that_needs_its_whole_height(self):
        """Two bushes that differ only at the ends of their chains."""
        def chain(many, end):
            bush = end
            for _ in range(many):
                bush = ("b", bush)
            return bush
        for many in range(5):
            # Chains beneath a joint with two branches, as long as one another, could exchange their ends.
            grove = (("t", chain(many, ("z",)), chain(many, ("t", ("z",), ("z",)))),)
            groves = every_plain(PLAIN, stock_of(PLAIN, grove), ("c",)) if many < 3 else None
            depth = alone_depth(PLAIN, grove)
            self.assertGreater(depth, many)
            self.assertLessEqual(depth, many + 4)
            if groves:
                self.assertEqual(depth, self.first_alone(PLAIN, grove, groves))


class TestKeeping(Case):
    def test_all_deeds_of_small_groves(self):
        met = set()
        for country in countries():
            for bushes, surgery in list(country.surgeries.items())[::9]:
                grove = country.groves[bushes]
                book = grove.bag().book()
                for depth in range(1, 5):
                    seen = dict(zip(grove.walk(), own_looks(book, plain_of(grove), depth - 1)))
                    for deed in surgery.every_deed():
                        half = len(deed) // 2 + 1
                        pairs = list(zip(deed[1:half], deed[half:]))
                        right = all(seen[grove.joint(s)] == seen[grove.joint(u)] for s, u in pairs)
                        self.assertIs(keeps_looks(grove, deed, depth), right)
                        met.add((deed[0], depth, right))
        self.assertTrue({(word, depth, True) for word in ("hang", "stretch") for depth in (1, 2)} <= met)
        self.assertTrue({(word, depth, False) for word in ("hang", "stretch") for depth in (2, 3)} <= met)

    def test_depth_1_keeps_always(self):
        for deed in all_deeds(named(PLAIN, ("c",), CHAIN)):
            self.assertIs(keeps_looks(named(PLAIN, ("c",), CHAIN), deed, 1), True)

    def test_only_what_is_exchanged_counts(self):
        """A deed of two coins looks at s beside u and at t beside v, and at no others."""
        grove = named(PLAIN, ("c",), (("t", ("b", ("b", ("z",))), ("b", ("t", ("z",), ("z",)))),))
        # The names are j1 to j8 in the order of a walk: t, b, b, z, b, t, z, z.
        self.assertEqual(grove.walk(), [f"j{k}" for k in range(1, 9)])
        self.assertIs(keeps_looks(grove, ("stretch", ("j1", 0), ("j2", 0), ("j1", 1), ("j5", 0)), 2), False)
        self.assertIs(keeps_looks(grove, ("stretch", ("j1", 0), ("j3", 0), ("j1", 1), ("j6", 0)), 2), True)
        self.assertIs(keeps_looks(grove, ("stretch", ("j1", 0), ("j3", 0), ("j1", 1), ("j6", 1)), 3), False)
        self.assertIs(keeps_looks(grove, ("hang", ("j3", 0), ("j6", 1)), 5), True)


class TestAlikeWay(Case):
    def check(self, book, roots, one, other, depth):
        told = alike_way(book, roots, one, other, depth)
        if not own_alike(book, one, other, depth):
            self.assertIsNone(told)
            return 0
        self.assertEqual((type(told), len(told)), (tuple, 3))
        f, g, script = told
        self.assertEqual([type(f), type(g), type(script)], [Grove, Grove, list])
        self.assertEqual(f.bag(), g.bag())
        self.assertEqual(f.bag().book(), book)
        self.assertEqual((f.roots(), g.roots()), (tuple(roots), tuple(roots)))
        self.assertEqual((plain_of(f), plain_of(g)), (tuple(one), tuple(other)))
        for deed in script:
            self.assertIs(keeps_looks(f, deed, depth), True)
            f = done(f, deed)
            self.assertTrue(own_alike(book, one, plain_of(f), depth))
        self.assertEqual(f, g)
        return len(script)

    def test_all_small_plain_groves(self):
        met = 0
        for book, roots, one, other in some_pairs():
            for depth in (1, 2, 3):
                met += self.check(book, roots, one, other, depth) > 0 and depth > 1
                self.check(book, roots, list(one), list(other), depth)
        self.assertGreater(met, 20)

    def test_unlike_groves(self):
        one, other = (("z",), ("b", ("z",)), ("z",)), (("z",), ("z",), ("b", ("z",)))
        self.assertIsNone(alike_way(PLAIN, ("c",) * 3, one, other, 2))
        self.assertIsNotNone(alike_way(PLAIN, ("c",) * 3, one, other, 1))
        # Also with unlike stocks.
        for depth in (1, 2, 12):
            self.assertIsNone(alike_way(PLAIN, ("c",), CHAIN, (("z",),), depth))
            self.assertIsNone(alike_way(PLAIN, ("c",), (("t", ("z",), ("z",)),), CHAIN, depth))
        self.assertEqual(alike_way(PLAIN, (), (), (), 1)[2], [])

    def test_greater_groves(self):
        draw = random_source(274)
        met = 0
        while met < 12:
            start = large_grove(draw, 24)
            book, roots = start.bag().book(), start.roots()
            depth = draw.randrange(1, 4)
            grove = start
            for _ in range(6):
                deeds = [deed for deed in all_deeds(grove)[::7] if keeps_looks(grove, deed, depth)]
                if deeds:
                    grove = done(grove, draw.choice(deeds))
            one, other = plain_of(start), plain_of(grove)
            met += self.check(book, roots, one, other, depth) > 0

    def test_deeds_that_keep_looks_lead_just_to_what_is_alike(self):
        two = ("t", ("z",), ("z",))
        for bushes in ((("t", ("b", ("z",)), ("b", two)),), (("b", ("t", two, ("b", ("z",)))),)):
            groves = every_plain(PLAIN, stock_of(PLAIN, bushes), ("c",))
            for depth in (1, 2, 3):
                # Other namings of what was met come to no other plain groves.
                met, waiting = {bushes}, [bushes]
                while waiting:
                    grove = named(PLAIN, ("c",), waiting.pop())
                    for deed in all_deeds(grove):
                        other = plain_of(done(grove, deed))
                        if keeps_looks(grove, deed, depth) and other not in met:
                            met.add(other)
                            waiting.append(other)
                self.assertEqual(met, {other for other in groves if own_alike(PLAIN, bushes, other, depth)})

    def test_what_was_passed_stays(self):
        one, roots = [("b", ("z",)), ("z",)], ["c", "c"]
        for call in (are_alike, unlike_look):
            call(PLAIN, one, one, 2)
        alike_way(PLAIN, roots, one, one, 1)
        look_book(PLAIN, one, 2)
        self.assertEqual((one, roots), ([("b", ("z",)), ("z",)], ["c", "c"]))


if __name__ == "__main__":
    unittest.main()
