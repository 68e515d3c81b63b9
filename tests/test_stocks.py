"""bushcoins.stocks: S5.1, and the links of S5.4."""

import unittest

from bushcoins.bags import Bag
from bushcoins.books import Book
from bushcoins.deeds import all_deeds, done
from bushcoins.groves import Grove
from bushcoins.plain import plain_of
from bushcoins.stocks import differing, links, part_at, paths, words_of
from tests.lands import large_grove, mixed_grove
from tests.samples import Case, anything, nested, random_source, sample_book, sample_grove, wide_book, wide_grove

PLAIN = (("a", ("b", ("b", ("z",))), ("z",)),)


def all_parts(bushes, path=()):
    """The pairs of path and bush, by recursion, in the order of a walk."""
    found = []
    for n, bush in enumerate(bushes):
        found.append((path + (n,), bush))
        found += all_parts(bush[1:], path + (n,))
    return found


def all_links(bushes, owner=None):
    """The links, by recursion."""
    found = []
    for n, bush in enumerate(bushes):
        found.append((owner, n, bush[0]))
        found += all_links(bush[1:], bush[0])
    return found


def plain_groves(draw):
    """Some plain groves, each with its book and roots."""
    found = [(sample_book(), ("red",), PLAIN), (wide_book(), wide_grove().roots(), plain_of(wide_grove()))]
    for _ in range(8):
        grove = large_grove(draw)
        found.append((grove.bag().book(), grove.roots(), plain_of(grove)))
    found.append((Book(()), (), ()))
    return found


class TestWords(Case):
    def test_by_hand(self):
        self.assertEqual(words_of(PLAIN), ["a", "b", "b", "z", "z"])
        self.assertEqual(words_of(list(PLAIN)), ["a", "b", "b", "z", "z"])
        self.assertEqual(words_of(()), [])
        self.assertEqual(words_of([]), [])

    def test_any_groves(self):
        for _, _, plain in plain_groves(random_source(81)):
            self.assertEqual(words_of(plain), [bush[0] for _, bush in all_parts(plain)])

    def test_new_lists(self):
        self.assert_new(lambda: words_of(PLAIN))
        self.assert_new(lambda: paths(PLAIN))
        self.assert_new(lambda: links(sample_book(), ("red",), PLAIN))
        given = list(PLAIN)
        words_of(given)
        paths(given)
        links(sample_book(), ("red",), given)
        part_at(given, (0, 1))
        self.assertEqual(given, list(PLAIN))


class TestDiffering(Case):
    def test_the_first_shape_in_the_order_of_the_book(self):
        book = Book([("y", "c", ()), ("b", "c", ("c",)), ("a", "c", ())])
        one = (("b", ("a",)), ("a",))
        self.assertIsNone(differing(book, one, (("a",), ("b", ("a",)))))
        self.assertEqual(differing(book, one, (("b", ("y",)), ("a",))), ("y", 0, 1))
        self.assertEqual(differing(book, (("b", ("y",)), ("a",)), one), ("y", 1, 0))
        self.assertEqual(differing(book, one, (("a",), ("a",))), ("b", 1, 0))
        self.assertEqual(differing(book, list(one), [("b", ("b", ("a",))), ("a",)]), ("b", 1, 2))
        self.assertEqual(differing(book, (("a",),), (("a",), ("a",))), ("a", 1, 2))
        self.assertIs(type(differing(book, (("a",),), (("a",), ("a",)))), tuple)
        self.assertIsNone(differing(book, (), []))
        self.assertIsNone(differing(book, one, list(one)))

    def test_equal_stocks_where_the_groves_differ(self):
        draw = random_source(82)
        for _ in range(5):
            grove = large_grove(draw)
            other = done(grove, all_deeds(grove)[0])
            self.assertIsNone(differing(grove.bag().book(), plain_of(grove), plain_of(other)))


class TestLinks(Case):
    def test_by_hand(self):
        self.assertEqual(links(sample_book(), ("red",), PLAIN), [
            (None, 0, "a"), ("a", 0, "b"), ("b", 0, "b"), ("b", 0, "z"), ("a", 1, "z"),
        ])
        self.assertEqual(links(sample_book(), (), ()), [])

    def test_several_roots(self):
        told = links(wide_book(), wide_grove().roots(), plain_of(wide_grove()))
        self.assertEqual(told, [
            (None, 0, "tree"), ("tree", 0, "bud"), ("tree", 1, "tree"), ("tree", 0, "bud"), ("tree", 1, "twig"),
            ("twig", 0, "bud"), ("tree", 2, "bud"), ("tree", 2, "bud"), (None, 1, "bud"), (None, 2, "knob"),
            (None, 3, "knob"),
        ])

    def test_any_groves(self):
        for book, roots, plain in plain_groves(random_source(83)):
            for given in (plain, list(plain)):
                self.assertEqual(links(book, roots, given), all_links(plain))

    def test_a_coin_changes_at_most_two(self):
        grove = mixed_grove()
        book, roots = grove.bag().book(), grove.roots()
        before = links(book, roots, plain_of(grove))
        for deed in all_deeds(grove):
            if deed[0] == "hang":
                behind = links(book, roots, plain_of(done(grove, deed)))
                gone = list(before)
                for link in behind:
                    if link in gone:
                        gone.remove(link)
                self.assertLessEqual(len(gone), 2)


class TestPaths(Case):
    def test_by_hand(self):
        self.assertEqual(paths(PLAIN), [(0,), (0, 0), (0, 0, 0), (0, 0, 0, 0), (0, 1)])
        self.assertEqual(paths([("z",), ("z",)]), [(0,), (1,)])
        self.assertEqual(paths(()), [])

    def test_any_groves(self):
        for _, _, plain in plain_groves(random_source(84)):
            self.assertEqual(paths(plain), [path for path, _ in all_parts(plain)])
            self.assertEqual(paths(list(plain)), paths(plain))
            for path in paths(plain):
                self.assertIs(type(path), tuple)

    def test_part_at_all_paths(self):
        for _, _, plain in plain_groves(random_source(85)):
            for path, bush in all_parts(plain):
                self.assertEqual(part_at(plain, path), bush)
                self.assertEqual(part_at(list(plain), path), bush)

    def test_part_at_paths_beyond(self):
        for path in (
            (1,), (-1,), (0, 2), (0, -1), (0, 1, 0), (0, 0, 1), (0, 0, 0, 0, 0), (0, 0, 0, 1), (2, 0), (10 ** 39,),
            (0, 10 ** 39), (-(10 ** 39),), (0, 0, -1), (-1, 0), (0, -2),
        ):
            self.assertIsNone(part_at(PLAIN, path), path)
        self.assertIsNone(part_at((), (0,)))

    def test_part_at_anything(self):
        two = PLAIN + (("a", ("z",), ("z",)),)
        for value in anything() + [
            [0], [0, 0], (True,), (False,), (0, True), (0, False), (False, 0), (1, True), ("0",), (None,), (0, None),
            ((0,),), ([0],), ({},), (0, ()), (0, []), "0", {0: 0}, (0, "a"), nested(70, "tuple"), (0, nested(69, "list")),
            0, (0, sample_grove()),
        ]:
            right = {(0,): two[0], (1,): two[1], (0, 0): two[0][1]}
            known = [path for path in right if type(value) is tuple and value == path]
            if known and [type(each) for each in value] == [int] * len(value):
                self.assertEqual(part_at(two, value), right[known[0]])
            else:
                self.assertIsNone(part_at(two, value), value)

    def test_deep_groves(self):
        book = Book([("b", "c", ("c",)), ("z", "c", ())])
        bush = ("z",)
        for _ in range(59):
            bush = ("b", bush)
        self.assertEqual(len(paths((bush,))), 60)
        self.assertEqual(part_at((bush,), (0,) * 60), ("z",))
        self.assertIsNone(part_at((bush,), (0,) * 61))
        self.assertEqual(links(book, ("c",), (bush,))[-1], ("b", 0, "z"))
        bag = Bag(book, [("b", "b"), ("z", "z")])
        self.assertEqual(words_of(plain_of(Grove(bag, ("c",), (("b", ("z",)),)))), ["b", "z"])


if __name__ == "__main__":
    unittest.main()
