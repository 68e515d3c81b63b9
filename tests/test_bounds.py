"""bushcoins.bounds: S5.4 and S5.5."""

import itertools
import math
import unittest

from bushcoins.books import Book
from bushcoins.bounds import high_bound, low_bound, nearest_namings, next_to, plain_coins
from bushcoins.coins import coins
from bushcoins.deeds import done
from bushcoins.errors import TooGreat, UnlikeStocks
from bushcoins.plain import named, plain_of, stock_of
from bushcoins.plainways import like_namings
from tests.lands import PLAIN_BOOK, any_deed, chain_grove, countries, forked_grove, large_grove, mixed_grove
from tests.oracles import Surgery
from tests.samples import Case, random_source, sample_book, sample_grove, wide_grove
from tests.test_stocks import all_links, all_parts

ROOTS = ("red",)
ONE = (("a", ("b", ("b", ("z",))), ("z",)),)
OTHER = (("a", ("b", ("z",)), ("b", ("z",))),)


def told_low(book, one, other):
    """The low bound, by the words of S5.4."""
    first, second = all_links(one), all_links(other)
    found = 0
    for colour in book.colours():
        more = 0
        for link in set(first):
            if book.stem(link[2]) == colour:
                more += max(first.count(link) - second.count(link), 0)
        found += (more + 1) // 2
    return 1 if found == 0 and one != other else found


def names_by_path(book, one, other):
    """All ways to give the joints of the second grove, by their paths, the paths of the first one as names."""
    first, second = all_parts(one), all_parts(other)
    choices = []
    for word in book.words():
        mine = [path for path, bush in first if bush[0] == word]
        theirs = [path for path, bush in second if bush[0] == word]
        choices.append([list(zip(theirs, order)) for order in itertools.permutations(mine)])
    for rows in itertools.product(*choices):
        yield dict(pair for row in rows for pair in row)


def told_coins(book, one, other):
    """The least number of coins of all namings: places less rings of each, counted by paths."""
    first = {path: (path[:-1], path[-1]) for path, _ in all_parts(one)}
    best = None
    for names in names_by_path(book, one, other):
        # A place is told by the name of its owner, a path of the first grove, and a number.
        second = {}
        for path, name in names.items():
            second[name] = (names[path[:-1]] if len(path) > 1 else (), path[-1])
        leads = {first[name]: second[name] for name in first}
        rings, left = 0, set(leads)
        while left:
            rings += 1
            place = min(left)
            while place in left:
                left.remove(place)
                place = leads[place]
        number = len(leads) - rings
        best = number if best is None else min(best, number)
    return best


def stocked_pairs():
    """Pairs of small plain groves with one stock, each with book and roots."""
    found = []
    for country in countries():
        groves = list(country.groves.values())
        book, roots = groves[0].bag().book(), groves[0].roots()
        plain = sorted({plain_of(grove) for grove in groves})
        found += [(book, roots, one, other) for one in plain for other in plain]
    return found


class TestBounds(Case):
    def test_all_small_groves(self):
        for book, roots, one, other in stocked_pairs()[::3]:
            low, high = low_bound(book, roots, one, other), high_bound(book, roots, list(one), other)
            fewest = plain_coins(book, roots, one, list(other))
            self.assertEqual(low, told_low(book, one, other))
            self.assertEqual(fewest, told_coins(book, one, other))
            self.assertEqual(high, coins(*like_namings(book, roots, one, other)))
            self.assertLessEqual(low, fewest)
            self.assertLessEqual(fewest, high)
            self.assertIs(fewest == 0, one == other)
            self.assertIs(low == 0, one == other)

    def test_large_groves(self):
        draw = random_source(101)
        for k in range(12):
            grove = large_grove(draw)
            other = grove
            for _ in range(k):
                other = done(other, any_deed(draw, other))
            book, roots = grove.bag().book(), grove.roots()
            one, two = plain_of(grove), plain_of(other)
            low = low_bound(book, roots, list(one), list(two))
            self.assertEqual(low, told_low(book, one, two))
            self.assertLessEqual(low, coins(grove, other))
            high = high_bound(book, roots, one, two)
            self.assertEqual(high, coins(*like_namings(book, roots, one, two)))
            self.assertLessEqual(low, high)

    def test_by_hand(self):
        book = sample_book()
        # ONE has (b, 0, b) and (a, 1, z) more than OTHER: two blue links.
        self.assertEqual(low_bound(book, ROOTS, ONE, OTHER), 1)
        self.assertEqual(plain_coins(book, ROOTS, ONE, OTHER), 1)
        self.assertEqual(high_bound(book, ROOTS, ONE, OTHER), 2)
        for call in (low_bound, high_bound, plain_coins):
            self.assertEqual(call(book, ROOTS, ONE, ONE), 0)
            self.assertEqual(call(book, ROOTS, ONE, list(ONE)), 0)
            self.assertEqual(call(Book(()), (), (), ()), 0)
            self.assertIs(type(call(book, ROOTS, ONE, OTHER)), int)

    def test_half_coins_are_counted_up_colour_by_colour(self):
        book = Book([
            ("a", "red", ("blue", "green")), ("c", "red", ("blue", "green")),
            ("y", "blue", ()), ("z", "blue", ()), ("v", "green", ()), ("w", "green", ()),
        ])
        one = (("a", ("y",), ("v",)), ("c", ("z",), ("w",)))
        other = (("c", ("y",), ("v",)), ("a", ("z",), ("w",)))
        # The two red links of roots differ, and two links of blue and of green.
        self.assertEqual(low_bound(book, ("red", "red"), one, other), 3)
        # One coin in red, and the same with the branches of one colour exchanged, too.
        self.assertEqual(low_bound(book, ("red", "red"), one, (("a", ("z",), ("v",)), ("c", ("y",), ("w",)))), 1)
        three = Book([("b", "c", ("c",)), ("d", "c", ("c",)), ("z", "c", ())])
        first = (("b", ("b", ("d", ("z",)))),)
        second = (("d", ("b", ("b", ("z",)))),)
        # (None, 0, b), (b, 0, d) and (d, 0, z) are more: (3 + 1) // 2.
        self.assertEqual(low_bound(three, ("c",), first, second), 2)

    def test_groves_that_differ_though_all_links_are_alike(self):
        book = Book([("r", "c", ("c", "c")), ("b", "c", ("c",)), ("d", "c", ("c",)), ("z", "c", ()), ("y", "c", ())])
        one = (("r", ("b", ("d", ("b", ("z",)))), ("b", ("y",))),)
        other = (("r", ("b", ("z",)), ("b", ("d", ("b", ("y",))))),)
        self.assertCountEqual(all_links(one), all_links(other))
        self.assertEqual(low_bound(book, ("c",), one, other), 1)
        self.assertEqual(low_bound(book, ("c",), one, one), 0)
        self.assertEqual(plain_coins(book, ("c",), one, other), told_coins(book, one, other))
        self.assertGreaterEqual(plain_coins(book, ("c",), one, other), 1)

    def test_unlike_stocks_come_first(self):
        many = [("z",)] * 8
        book = Book(PLAIN_BOOK)
        roots = ("c",) * 8
        other = many[1:] + [("b", ("z",))]
        for call in (low_bound, high_bound, plain_coins, nearest_namings):
            for one, two in ((many, other), (other, many)):
                with self.assertRaises(UnlikeStocks) as caught:
                    call(book, roots, one, two)
                self.assertIs(type(caught.exception), UnlikeStocks)
                self.assertEqual(caught.exception.word, "b")


class TestNearest(Case):
    def test_all_small_groves(self):
        for book, roots, one, other in stocked_pairs()[::5]:
            told = nearest_namings(book, roots, list(one), list(other))
            self.assertIs(type(told), tuple)
            f, g = told
            self.assertEqual((plain_of(f), plain_of(g)), (one, other))
            self.assertEqual(f.bag(), g.bag())
            self.assertEqual(f.bag().book(), book)
            self.assertEqual((f.roots(), g.roots()), (roots, roots))
            self.assertEqual(coins(f, g), told_coins(book, one, other))

    def test_just_720_namings_and_more(self):
        book = Book([("s", "c", ()), ("t", "c", ()), ("b", "c", ("c",))])
        for words, right in (
            ("s" * 6, 720), ("s" * 6 + "t", 720), ("s" * 7, 5040), ("s" * 6 + "tt", 1440), ("s" * 5 + "ttt", 720),
            ("s" * 4 + "t" * 4, 576), ("s" * 5 + "t" * 4, 2880),
        ):
            one = tuple((word,) for word in words)
            other = one[::-1]
            roots = ("c",) * len(words)
            many = 1
            for number in stock_of(book, one):
                many *= math.factorial(number)
            self.assertEqual(many, right)
            if many > 720:
                for call in (plain_coins, nearest_namings):
                    with self.assertRaises(TooGreat) as caught:
                        call(book, roots, one, other)
                    self.assertIs(type(caught.exception), TooGreat)
                # The bounds are told always.
                self.assertLessEqual(low_bound(book, roots, one, other), high_bound(book, roots, one, other))
            else:
                self.assertEqual(plain_coins(book, roots, one, other), told_coins(book, one, other))

    def test_a_large_grove_with_few_namings(self):
        shapes = [(f"s{k}", "c", ("c",)) for k in range(20)] + [("z", "c", ())]
        book = Book(shapes)
        first = second = ("z",)
        for k in range(20):
            first = (f"s{k}", first)
            second = (f"s{(7 * k) % 20}", second)
        told = plain_coins(book, ("c",), (first,), (second,))
        self.assertEqual(told, high_bound(book, ("c",), (first,), (second,)))
        self.assertEqual(told, told_coins(book, (first,), (second,)))


class TestNextTo(Case):
    def told(self, book, roots, plain):
        """The plain groves next to one, by all deeds of one coin done by cutting bushes."""
        grove = named(book, roots, plain)
        words = dict(grove.bag().joints())

        def bare(bush):
            return (words[bush[0]],) + tuple(bare(part) for part in bush[1:])

        surgery = Surgery(grove.bag(), roots, grove.bushes())
        found = set()
        for s, t in itertools.combinations(surgery.places, 2):
            if surgery.can(("hang", s, t)):
                found.add(tuple(bare(bush) for bush in surgery.done(("hang", s, t))))
        return sorted(found - {tuple(plain)})

    def test_small_groves(self):
        groves = [sample_grove(), forked_grove(), mixed_grove(), wide_grove(), chain_grove(["a", "b", "c"])]
        for country in countries():
            groves += list(country.groves.values())[::9]
        for grove in groves:
            book, roots, plain = grove.bag().book(), grove.roots(), plain_of(grove)
            told = next_to(book, roots, plain)
            self.assertEqual(told, self.told(book, roots, plain))
            self.assertEqual(next_to(book, roots, list(plain)), told)
            for other in told:
                self.assertIs(type(other), tuple)
                self.assertIn(plain, next_to(book, roots, other))
                self.assertEqual(stock_of(book, other), stock_of(book, plain))
            self.assertNotIn(plain, told)

    def test_by_hand(self):
        self.assertEqual(next_to(sample_book(), ROOTS, OTHER), [
            (("a", ("b", ("b", ("z",))), ("z",)),), (("a", ("z",), ("b", ("b", ("z",)))),),
        ])
        self.assertEqual(next_to(Book(()), (), ()), [])

    def test_chains_have_none(self):
        """S5.5: a bush in which all joints have at most one branch; no plain grove is next to itself."""
        book = Book([("b", "c", ("c",)), ("d", "c", ("c",)), ("z", "c", ())])
        self.assertEqual(next_to(book, ("c",), (("b", ("d", ("b", ("z",)))),)), [])
        self.assertEqual(next_to(book, ("c", "c"), (("z",), ("z",))), [])
        self.assertEqual(next_to(book, ("c", "c"), (("b", ("z",)), ("b", ("z",)))), [
            (("b", ("b", ("z",))), ("z",)), (("z",), ("b", ("b", ("z",)))),
        ])

    def test_new_lists(self):
        self.assert_new(lambda: next_to(sample_book(), ROOTS, OTHER))
        given = list(OTHER)
        next_to(sample_book(), ROOTS, given)
        low_bound(sample_book(), ROOTS, given, list(ONE))
        nearest_namings(sample_book(), ROOTS, given, list(ONE))
        self.assertEqual(given, list(OTHER))


if __name__ == "__main__":
    unittest.main()
