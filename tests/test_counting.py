"""bushcoins.counting: S7.2, S7.3, S7.5, S7.6 and S7.7."""

import itertools
import math
import unittest

from bushcoins.bags import Bag
from bushcoins.books import Book
from bushcoins.counting import (
    chance_at, count_beginning, count_named, count_plain, first_joints, first_shapes, mean_in, plain_beginning,
)
from bushcoins.errors import UnknownName
from bushcoins.plain import named
from tests.every import NO_KINDS, PLAIN_KINDS, bag_of, every_grove, every_plain, mean, row_of, some_bags
from tests.lands import countries, large_grove
from tests.samples import Case, anything, random_source, sample_bag, sample_book, wide_book

RING = Bag(Book([("b", "blue", ("blue",)), ("r", "red", ())]), [("b", "b"), ("r", "r")])


def shapes_of_random_stocks(draw, many):
    """Books, stocks and roots of random small bags."""
    return [(bag.book(), bag.stock(), tuple(roots)) for bag, roots in some_bags(draw, many)]


class TestCounts(Case):
    def test_the_example(self):
        self.assertEqual(count_named(sample_bag(), ["red"]), 12)
        self.assertEqual(count_plain(sample_book(), (1, 2, 2), ["red"]), 3)

    def test_groves_of_small_bags(self):
        met = set()
        for bag, roots in some_bags(random_source(211), 160):
            right = len(every_grove(bag, roots))
            for told in (count_named(bag, roots), count_named(bag, tuple(roots))):
                self.assertIs(type(told), int)
                self.assertEqual(told, right)
            met.add(min(right, 2))
        self.assertEqual(met, {0, 1, 2})
        for country in countries():
            grove = list(country.groves.values())[0]
            right = len(every_grove(grove.bag(), grove.roots()))
            self.assertEqual(count_named(grove.bag(), grove.roots()), right)
            self.assertLessEqual(len(country.groves), right)

    def test_plain_groves_of_small_stocks(self):
        for book, stock, roots in PLAIN_KINDS + tuple(shapes_of_random_stocks(random_source(212), 120)):
            right = len(every_plain(book, stock, roots))
            for told in (count_plain(book, stock, roots), count_plain(book, stock, list(roots))):
                self.assertIs(type(told), int)
                self.assertEqual(told, right)
            factorials = math.prod(math.factorial(many) for many in stock)
            self.assertEqual(count_named(bag_of(book, stock), roots), right * factorials)

    def test_no_groves(self):
        for book, stock, roots in NO_KINDS:
            self.assertEqual(count_plain(book, stock, roots), 0)
            self.assertEqual(count_named(bag_of(book, stock), roots), 0)
        # A colour that only roots, only stems or only branches have.
        self.assertEqual(count_named(sample_bag(), ["zz"]), 0)
        self.assertEqual(count_named(sample_bag(), ["red", "zz"]), 0)
        self.assertEqual(count_named(Bag(sample_book(), [("y", "z"), ("z", "z")]), ["blue"]), 0)
        self.assertEqual(count_named(Bag(Book([("a", "red", ("zz",))]), [("a", "a")]), ["red"]), 0)
        # Joints that are not reached.
        self.assertEqual(count_named(RING, ["red"]), 0)
        self.assertEqual(count_named(RING, ["red", "blue"]), 0)
        self.assertEqual(count_named(RING, []), 0)

    def test_no_joints_and_no_roots(self):
        empty = Bag(sample_book(), [])
        self.assertEqual(count_named(empty, []), 1)
        self.assertEqual(count_named(empty, ()), 1)
        self.assertEqual(count_named(empty, ["red"]), 0)
        self.assertEqual(count_named(sample_bag(), []), 0)
        self.assertEqual(count_plain(sample_book(), (0, 0, 0), ()), 1)
        self.assertEqual(count_plain(sample_book(), (0, 0, 0), ("red",)), 0)
        self.assertEqual(count_plain(Book([]), (), ()), 1)
        self.assertEqual(count_plain(Book([]), (), ("red",)), 0)

    def test_roots_in_another_order(self):
        book = wide_book()
        for roots in itertools.permutations(("leaf", "wood", "wood")):
            self.assertEqual(count_plain(book, (1, 1, 4, 1), roots), len(every_plain(book, (1, 1, 4, 1), roots)))
            self.assertEqual(count_plain(book, (1, 1, 4, 1), roots), count_plain(book, (1, 1, 4, 1), roots[::-1]))
        grove = large_grove(random_source(213))
        right = count_named(grove.bag(), grove.roots())
        self.assertGreater(right, 10 ** 20)
        for roots in itertools.permutations(grove.roots()):
            self.assertEqual(count_named(grove.bag(), roots), right)

    def test_sixty_joints(self):
        # n joints at a chain with one end stand in n! orders.
        book = Book([("b", "c", ("c",)), ("z", "c", ())])
        bag = Bag(book, [(f"b{k}", "b") for k in range(59)] + [("z", "z")])
        self.assertEqual(count_named(bag, ["c"]), math.factorial(59))
        self.assertEqual(count_plain(book, (59, 1), ["c"]), 1)
        # Bushes with two branches at each inner joint: Catalan's numbers.
        two = Book([("t", "c", ("c", "c")), ("z", "c", ())])
        self.assertEqual(count_plain(two, (29, 30), ["c"]), math.comb(58, 29) // 30)
        self.assertEqual(count_plain(two, (0, 60), ["c"] * 60), 1)
        self.assertEqual(count_named(bag_of(two, (0, 60)), ["c"] * 60), math.factorial(60))

    def test_six_colours(self):
        names = [f"c{k}" for k in range(6)]
        shapes = [(f"s{k}", names[k], (names[k], names[(k + 1) % 6])) for k in range(6)]
        shapes += [(f"e{k}", names[k], ()) for k in range(6)]
        self.assertEqual(count_plain(Book(shapes), (0,) * 6 + (1,) * 6, names), 1)
        stock = (2, 2, 1, 1, 1, 1) + (1, 2, 2, 1, 1, 2)
        right = len(every_plain(Book(shapes), stock, ("c5",)))
        self.assertGreater(right, 5)
        self.assertEqual(count_plain(Book(shapes), stock, ("c5",)), right)

    def test_nothing_is_changed(self):
        bag, roots = sample_bag(), ["red"]
        for call in (count_named, first_joints):
            self.assertEqual(call(bag, roots), call(bag, roots))
        self.assertEqual((bag, roots), (sample_bag(), ["red"]))


class TestBeginnings(Case):
    def test_first_joints(self):
        self.assertEqual(first_joints(sample_bag(), ["red"]), [("p", 12)])
        self.assertEqual(first_joints(sample_bag(), ["blue", "red"]), [("q", 0), ("r", 0), ("y", 0), ("z", 0)])
        self.assertEqual(first_joints(sample_bag(), []), [])
        self.assertEqual(first_joints(sample_bag(), ["zz"]), [])
        self.assertEqual(first_joints(RING, ["red"]), [("r", 0)])
        for bag, roots in some_bags(random_source(214), 100):
            groves = every_grove(bag, roots)
            right = []
            for name in bag.names():
                if roots and bag.stem(name) == roots[0]:
                    right.append((name, len([1 for bushes in groves if bushes[0][0] == name])))
            self.assertEqual(first_joints(bag, roots), right)
            self.assertEqual(first_joints(bag, tuple(roots)), right)

    def test_first_shapes(self):
        self.assertEqual(first_shapes(sample_book(), (1, 2, 2), ["red"]), [("a", 3)])
        self.assertEqual(first_shapes(sample_book(), (0, 2, 2), ["blue", "blue"]), [("b", 2), ("z", 1)])
        # Of which the stock has no joint.
        self.assertEqual(first_shapes(sample_book(), (1, 0, 2), ["blue"]), [("z", 0)])
        self.assertEqual(first_shapes(sample_book(), (1, 2, 2), []), [])
        for book, stock, roots in PLAIN_KINDS + tuple(shapes_of_random_stocks(random_source(215), 80)):
            groves = every_plain(book, stock, roots)
            right = []
            for word, many in zip(book.words(), stock):
                if roots and many and book.stem(word) == roots[0]:
                    right.append((word, len([1 for bushes in groves if bushes[0][0] == word])))
            self.assertEqual(first_shapes(book, stock, roots), right)
            self.assertEqual(first_shapes(book, stock, list(roots)), right)

    def test_lists_are_new(self):
        self.assert_new(lambda: first_joints(sample_bag(), ["red"]))
        self.assert_new(lambda: first_shapes(sample_book(), (1, 2, 2), ["red"]))
        self.assert_new(lambda: first_joints(sample_bag(), []))
        for row in first_joints(sample_bag(), ["red"]) + first_shapes(sample_book(), (1, 2, 2), ["red"]):
            self.assertEqual([type(row)] + [type(member) for member in row], [tuple, str, int])

    def test_beginnings_of_groves(self):
        for bag, roots in some_bags(random_source(216), 40, 5):
            rows = [tuple(row_of(bushes)) for bushes in every_grove(bag, roots)]
            for many in range(min(len(bag.names()) + 1, 4) + 1):
                for names in itertools.product(bag.names() + ["nobody"], repeat=many):
                    right = len([1 for row in rows if row[:many] == names])
                    self.assertEqual(count_beginning(bag, roots, names), right)
            for row in rows[:3]:
                for many in range(len(row) + 1):
                    right = len([1 for other in rows if other[:many] == row[:many]])
                    self.assertEqual(count_beginning(bag, tuple(roots), list(row[:many])), right)
                self.assertEqual(count_beginning(bag, roots, row), 1)
                self.assertEqual(count_beginning(bag, roots, row + row[:1]), 0 if row else 1)
                self.assertEqual(count_beginning(bag, roots, row + ("nobody",)), 0)

    def test_beginnings_of_plain_groves(self):
        for book, stock, roots in PLAIN_KINDS:
            rows = [tuple(row_of(bushes)) for bushes in every_plain(book, stock, roots)]
            for many in range(4):
                for words in itertools.product(book.words() + ["nobody"], repeat=many):
                    right = len([1 for row in rows if row[:many] == words])
                    self.assertEqual(plain_beginning(book, stock, roots, words), right)
                    self.assertEqual(plain_beginning(book, stock, list(roots), list(words)), right)
            for row in rows:
                self.assertEqual(plain_beginning(book, stock, roots, row), 1)
                self.assertEqual(plain_beginning(book, stock, roots, row + row[-1:]), 0)
                self.assertEqual(plain_beginning(book, stock, roots, row[:-1] + ("nobody",)), 0)

    def test_strings_that_are_no_names(self):
        for word in ("", "nobody", "P", "p ", "root", "a", "x" * 500, "\n", "(p)"):
            for names in ([word], ["p", word], [word, "p"], ["p", "q", word, "r"]):
                self.assertEqual(count_beginning(sample_bag(), ["red"], names), 0)
        for word in ("", "p", "root", "A", "zz", "red"):
            for words in ([word], ["a", word], [word, "a"]):
                self.assertEqual(plain_beginning(sample_book(), (1, 2, 2), ["red"], words), 0)

    def test_names_told_twice_or_more_than_there_are(self):
        self.assertEqual(count_beginning(sample_bag(), ["red"], ["p", "q"]), 4)
        self.assertEqual(count_beginning(sample_bag(), ["red"], ["p", "p"]), 0)
        self.assertEqual(count_beginning(sample_bag(), ["red"], ["p", "q", "q"]), 0)
        self.assertEqual(count_beginning(sample_bag(), ["red"], ["p", "q", "r", "z", "y"]), 1)
        self.assertEqual(count_beginning(sample_bag(), ["red"], ["p", "q", "r", "z", "y", "p"]), 0)
        # A word stands as often as the stock has joints.
        self.assertEqual(plain_beginning(sample_book(), (1, 2, 2), ["red"], ["a", "b", "b"]), 1)
        self.assertEqual(plain_beginning(sample_book(), (1, 2, 2), ["red"], ["a", "b", "b", "b"]), 0)
        self.assertEqual(plain_beginning(sample_book(), (1, 2, 2), ["red"], ["a", "b", "b", "z", "z", "z"]), 0)

    def test_no_names_are_all_groves(self):
        self.assertEqual(count_beginning(sample_bag(), ["red"], []), 12)
        self.assertEqual(plain_beginning(sample_book(), (1, 2, 2), ["red"], ()), 3)
        self.assertEqual(count_beginning(RING, ["red"], []), 0)
        self.assertEqual(count_beginning(Bag(Book([]), []), [], []), 1)
        self.assertEqual(count_beginning(Bag(Book([]), []), [], ["p"]), 0)
        self.assertEqual(count_beginning(Bag(Book([]), []), ["red"], []), 0)
        # Behind the beginning a joint is left that nothing reaches.
        self.assertEqual(count_beginning(RING, ["red"], ["r"]), 0)

    def test_names_stay(self):
        names = ["p", "q"]
        count_beginning(sample_bag(), ["red"], names)
        plain_beginning(sample_book(), (1, 2, 2), ["red"], names)
        self.assertEqual(names, ["p", "q"])


class TestChances(Case):
    def test_against_a_list(self):
        for book, stock, roots in PLAIN_KINDS:
            groves = every_plain(book, stock, roots)
            self.assertTrue(groves)
            for number in range(len(roots)):
                for word in book.words():
                    right = mean([int(bushes[number][0] == word) for bushes in groves])
                    self.assertEqual(chance_at(book, stock, roots, number, word), right)
                    self.assertEqual(chance_at(book, stock, list(roots), number, word), right)

    def test_random_stocks(self):
        met = 0
        for book, stock, roots in shapes_of_random_stocks(random_source(217), 80):
            groves = every_plain(book, stock, roots)
            for number in range(len(roots)):
                for word in book.words():
                    right = mean([int(bushes[number][0] == word) for bushes in groves])
                    self.assertEqual(chance_at(book, stock, roots, number, word), right)
                    met += right not in (None, (0, 1), (1, 1))
        self.assertGreater(met, 3)

    def test_fractions(self):
        told = chance_at(sample_book(), (0, 2, 2), ("blue", "blue"), 1, "b")
        self.assertEqual(told, (2, 3))
        self.assertEqual([type(told)] + [type(number) for number in told], [tuple, int, int])
        self.assertEqual(chance_at(sample_book(), (1, 2, 2), ("red",), 0, "z"), (0, 1))
        self.assertEqual(chance_at(sample_book(), (1, 2, 2), ("red",), 0, "a"), (1, 1))
        # The stock has no joint of b, though its stem has the colour.
        self.assertEqual(chance_at(sample_book(), (1, 0, 3), ("red", "blue"), 1, "b"), (0, 1))

    def test_no_plain_grove(self):
        for book, stock, roots in NO_KINDS:
            for number in range(len(roots)):
                for word in book.words():
                    self.assertIsNone(chance_at(book, stock, roots, number, word))

    def test_values_that_are_no_words(self):
        for value in anything() + ["p", "A", "a ", ["a"], ("a",)]:
            self.assert_unknown(UnknownName, value, chance_at, sample_book(), (1, 2, 2), ("red",), 0, value)
            # Also where there is no plain grove.
            self.assert_unknown(UnknownName, value, chance_at, sample_book(), (1, 2, 2), ("blue",), 0, value)


class TestMeans(Case):
    def pairs(self, bush, word, branch, other):
        """How many joints of a bush have the word and a joint of the other one in the branch."""
        here = bush[0] == word and bush[branch + 1][0] == other
        return int(here) + sum(self.pairs(part, word, branch, other) for part in bush[1:])

    def check(self, book, stock, roots):
        groves = every_plain(book, stock, roots)
        met = 0
        for word in book.words():
            for branch in range(len(book.branches(word))):
                for other in book.words():
                    right = mean([
                        sum(self.pairs(bush, word, branch, other) for bush in bushes) for bushes in groves
                    ])
                    self.assertEqual(mean_in(book, stock, roots, word, branch, other), right)
                    met += right not in (None, (0, 1))
        return met

    def test_the_example(self):
        told = mean_in(sample_book(), (1, 2, 2), ("red",), "b", 0, "z")
        self.assertEqual(told, (4, 3))
        self.assertEqual([type(told)] + [type(number) for number in told], [tuple, int, int])

    def test_against_a_list(self):
        for book, stock, roots in PLAIN_KINDS:
            self.assertGreater(self.check(book, stock, roots), 1)
            self.check(book, stock, list(roots))

    def test_random_stocks(self):
        met = [self.check(book, stock, roots) for book, stock, roots in shapes_of_random_stocks(random_source(218), 80)]
        self.assertGreater(sum(met), 5)

    def test_a_word_and_itself(self):
        book = Book([("t", "c", ("c", "c")), ("b", "c", ("c",)), ("z", "c", ())])
        self.assertEqual(mean_in(book, (0, 2, 1), ("c",), "b", 0, "b"), (1, 1))
        # One joint of b alone holds no other one.
        self.assertEqual(mean_in(book, (0, 1, 1), ("c",), "b", 0, "b"), (0, 1))
        self.assertEqual(mean_in(book, (0, 0, 1), ("c",), "b", 0, "b"), (0, 1))
        self.assertEqual(mean_in(book, (2, 0, 3), ("c",), "t", 1, "t"), (1, 2))

    def test_stocks_with_too_few_joints(self):
        self.assertEqual(mean_in(sample_book(), (1, 0, 2), ("red",), "a", 0, "b"), (0, 1))
        self.assertEqual(mean_in(sample_book(), (0, 0, 1), ("blue",), "a", 0, "z"), (0, 1))
        self.assertEqual(mean_in(sample_book(), (0, 0, 1), ("blue",), "b", 0, "z"), (0, 1))

    def test_another_colour(self):
        self.assertEqual(mean_in(sample_book(), (1, 2, 2), ("red",), "b", 0, "a"), (0, 1))
        self.assertEqual(mean_in(sample_book(), (1, 2, 2), ("red",), "a", 1, "a"), (0, 1))

    def test_no_plain_grove(self):
        for book, stock, roots in NO_KINDS:
            for word in book.words():
                for branch in range(len(book.branches(word))):
                    for other in book.words():
                        self.assertIsNone(mean_in(book, stock, roots, word, branch, other))

    def test_values_that_are_no_words(self):
        book = sample_book()
        for stock in ((1, 2, 2), (1, 1, 1)):
            for value in anything() + ["p", "A", "a ", ["a"], ("a",)]:
                self.assert_unknown(UnknownName, value, mean_in, book, stock, ("red",), value, 0, "z")
                self.assert_unknown(UnknownName, value, mean_in, book, stock, ("red",), "b", 0, value)
            # Of two the word comes first.
            one, other = ["a"], {"z": 1}
            self.assert_unknown(UnknownName, one, mean_in, book, stock, ("red",), one, 0, other)

    def test_means_add_up(self):
        draw = random_source(219)
        for _ in range(4):
            grove = large_grove(draw)
            book, stock, roots = grove.bag().book(), grove.bag().stock(), grove.roots()
            for word, many in zip(book.words(), stock):
                for branch in range(len(book.branches(word))):
                    told = [mean_in(book, stock, roots, word, branch, other) for other in book.words()]
                    self.assertEqual(sum(p * math.lcm(*[q for _, q in told]) // q for p, q in told),
                                     many * math.lcm(*[q for _, q in told]))
                    self.assertEqual([math.gcd(p, q) for p, q in told], [1] * len(told))
            chances = [chance_at(book, stock, roots, 1, word) for word in book.words()]
            whole = math.lcm(*[q for _, q in chances])
            self.assertEqual(sum(p * whole // q for p, q in chances), whole)

    def test_a_grove_becomes_plain(self):
        """The number of plain groves tells also for what named made."""
        grove = named(sample_book(), ("red",), (("a", ("z",), ("b", ("z",))),))
        self.assertEqual(count_named(grove.bag(), ("red",)), 4)
        self.assertEqual(count_plain(sample_book(), grove.bag().stock(), ("red",)), 2)


if __name__ == "__main__":
    unittest.main()
