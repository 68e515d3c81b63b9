"""bushcoins.numbering: S7.4, S7.5 and S7.7."""

import unittest

from bushcoins.bags import Bag
from bushcoins.books import Book
from bushcoins.counting import count_named, count_plain
from bushcoins.errors import TooGreat
from bushcoins.groves import Grove
from bushcoins.numbering import (
    drawn, grove_at, groves_from, next_grove, next_plain, number_of, plain_at, plain_number,
)
from bushcoins.plain import check_plain, plain_of, stock_of
from tests.every import NO_KINDS, PLAIN_KINDS, bag_of, every_grove, every_plain, some_bags
from tests.lands import MIXED_BOOK, PLAIN_BOOK, countries
from tests.samples import Case, random_source, sample_bag, sample_book, sample_grove

EMPTY = Bag(Book([]), [])


def chain_bag():
    """29 joints with one branch, and an end: 29! groves."""
    return Bag(Book(PLAIN_BOOK), [(f"b{k}", "b") for k in range(29)] + [("z", "z")])


def many_bag():
    """30 joints of four shapes and two colours."""
    return bag_of(Book(MIXED_BOOK), (8, 6, 7, 9))


MANY_ROOTS = ("blue", "red") + ("blue",) * 6


class TestGroves(Case):
    def assert_too_great(self, call, *told):
        with self.assertRaises(TooGreat) as caught:
            call(*told)
        self.assertIs(type(caught.exception), TooGreat)

    def check(self, bag, roots):
        """All groves there and back; how many there are."""
        groves = every_grove(bag, roots)
        for number, bushes in enumerate(groves):
            grove = grove_at(bag, roots, number)
            self.assertIs(type(grove), Grove)
            self.assertEqual(grove, Grove(bag, roots, bushes))
            self.assertEqual(number_of(grove), number)
            self.assertIs(type(number_of(grove)), int)
            behind = next_grove(grove)
            if number + 1 < len(groves):
                self.assertEqual(behind, Grove(bag, roots, groves[number + 1]))
            else:
                self.assertIsNone(behind)
        for number in (len(groves), len(groves) + 1, 2 * len(groves) + 1, 10 ** 39):
            self.assert_too_great(grove_at, bag, roots, number)
        return len(groves)

    def test_the_example(self):
        self.assertEqual(number_of(sample_grove()), 1)
        self.assertEqual(grove_at(sample_bag(), ["red"], 1), sample_grove())
        self.assertEqual(grove_at(sample_bag(), ["red"], 0).walk(), ["p", "q", "r", "y", "z"])
        self.assertEqual(next_grove(grove_at(sample_bag(), ["red"], 0)), sample_grove())

    def test_all_groves_of_small_bags(self):
        met = [self.check(bag, roots) for bag, roots in some_bags(random_source(221), 70, 5)]
        self.assertGreater(max(met), 10)
        self.assertIn(0, met)
        for country in countries():
            grove = list(country.groves.values())[0]
            self.assertGreater(self.check(grove.bag(), grove.roots()), 1)

    def test_the_order_of_the_bag(self):
        """The order is that of the bag, not that of names or of shapes."""
        bag = Bag(sample_book(), [("y", "z"), ("r", "b"), ("p", "a"), ("q", "b"), ("a", "z")])
        self.assertEqual(self.check(bag, ["red"]), 12)
        self.assertEqual(grove_at(bag, ["red"], 0).walk(), ["p", "y", "r", "q", "a"])
        self.assertEqual(grove_at(bag, ["red"], 11).walk(), ["p", "a", "q", "r", "y"])

    def test_no_joints(self):
        self.assertEqual(grove_at(EMPTY, [], 0), Grove(EMPTY, [], []))
        self.assertEqual(number_of(Grove(EMPTY, [], [])), 0)
        self.assertIsNone(next_grove(Grove(EMPTY, [], [])))
        self.assert_too_great(grove_at, EMPTY, [], 1)
        self.assert_too_great(grove_at, EMPTY, ["red"], 0)
        self.assert_too_great(grove_at, sample_bag(), [], 0)
        self.assert_too_great(grove_at, sample_bag(), ["zz"], 0)

    def test_numbers_of_many_figures(self):
        draw = random_source(222)
        for bag, roots in ((chain_bag(), ["c"]), (many_bag(), MANY_ROOTS)):
            whole = count_named(bag, roots)
            self.assertGreater(whole, 10 ** 23)
            for number in [0, 1, whole - 1, whole - 2, whole // 2] + [draw.randrange(whole) for _ in range(8)]:
                grove = grove_at(bag, roots, number)
                self.assertEqual(number_of(grove), number)
                following = next_grove(grove)
                if number == whole - 1:
                    self.assertIsNone(following)
                else:
                    self.assertEqual(number_of(following), number + 1)
            self.assert_too_great(grove_at, bag, roots, whole)
            self.assert_too_great(grove_at, bag, roots, whole + 1)
        # In a chain of n joints the first name tells the number divided by (n - 1)!.
        names = chain_bag().names()
        self.assertEqual(grove_at(chain_bag(), ["c"], 0).walk(), names)
        last = count_named(chain_bag(), ["c"]) - 1
        self.assertEqual(grove_at(chain_bag(), ["c"], last).walk(), names[28::-1] + ["z"])

    def test_groves_from(self):
        for bag, roots in some_bags(random_source(223), 30, 5):
            groves = [Grove(bag, roots, bushes) for bushes in every_grove(bag, roots)]
            self.assertEqual(groves_from(bag, roots), groves[:10])
            self.assertEqual(groves_from(bag, tuple(roots), many=50), groves[:50])
            for number in range(len(groves) + 2):
                for many in (0, 1, 3, 50):
                    told = groves_from(bag, roots, number=number, many=many)
                    self.assertEqual(told, groves[number:number + many])
                self.assertEqual(groves_from(bag, roots, number=number), groves[number:number + 10])

    def test_groves_from_at_the_end_and_beyond_it(self):
        self.assertEqual(len(groves_from(sample_bag(), ["red"], number=10)), 2)
        self.assertEqual(len(groves_from(sample_bag(), ["red"], number=11, many=50)), 1)
        self.assertEqual(groves_from(sample_bag(), ["red"], number=12), [])
        self.assertEqual(groves_from(sample_bag(), ["red"], number=10 ** 39), [])
        self.assertEqual(groves_from(sample_bag(), ["red"], many=0), [])
        self.assertEqual(groves_from(sample_bag(), ["zz"]), [])
        self.assertEqual(groves_from(EMPTY, []), [Grove(EMPTY, [], [])])
        whole = count_named(many_bag(), MANY_ROOTS)
        told = groves_from(many_bag(), MANY_ROOTS, number=whole - 5, many=10)
        self.assertEqual([number_of(grove) for grove in told], list(range(whole - 5, whole)))
        told = groves_from(chain_bag(), ["c"], number=10 ** 20, many=50)
        self.assertEqual([number_of(grove) for grove in told], list(range(10 ** 20, 10 ** 20 + 50)))

    def test_numbers_and_many_are_passed_by_keyword(self):
        with self.assertRaises(TypeError):
            groves_from(sample_bag(), ["red"], 1)

    def test_lists_are_new(self):
        self.assert_new(lambda: groves_from(sample_bag(), ["red"]))
        self.assert_new(lambda: groves_from(sample_bag(), ["red"], number=99))
        roots = ["red"]
        groves_from(sample_bag(), roots)
        grove_at(sample_bag(), roots, 3)
        drawn(sample_bag(), roots, 3)
        self.assertEqual(roots, ["red"])

    def test_drawn(self):
        groves = [Grove(sample_bag(), ["red"], bushes) for bushes in every_grove(sample_bag(), ["red"])]
        for number in list(range(30)) + [10 ** 39, 10 ** 39 + 7, 12 ** 300 + 5]:
            self.assertEqual(drawn(sample_bag(), ["red"], number), groves[number % 12])
            self.assertEqual(drawn(sample_bag(), ("red",), number), groves[number % 12])
        self.assertEqual(drawn(EMPTY, [], 10 ** 39), Grove(EMPTY, [], []))
        whole = count_named(chain_bag(), ["c"])
        self.assertEqual(number_of(drawn(chain_bag(), ["c"], 7 * whole + 10 ** 28)), 10 ** 28)

    def test_nothing_to_be_drawn(self):
        for number in (0, 1, 10 ** 39):
            self.assertIsNone(drawn(sample_bag(), [], number))
            self.assertIsNone(drawn(sample_bag(), ["red", "red"], number))
            self.assertIsNone(drawn(EMPTY, ["red"], number))
            for book, stock, roots in NO_KINDS:
                self.assertIsNone(drawn(bag_of(book, stock), roots, number))


class TestPlainGroves(Case):
    def test_all_plain_groves_of_small_stocks(self):
        for book, stock, roots in PLAIN_KINDS:
            groves = every_plain(book, stock, roots)
            for number, bushes in enumerate(groves):
                for told in (plain_at(book, stock, roots, number), plain_at(book, stock, list(roots), number)):
                    self.assertIs(type(told), tuple)
                    self.assertEqual(told, bushes)
                for grove in (bushes, list(bushes)):
                    self.assertEqual(plain_number(book, grove), number)
                    behind = next_plain(book, grove)
                    if number + 1 < len(groves):
                        self.assertIs(type(behind), tuple)
                        self.assertEqual(behind, groves[number + 1])
                    else:
                        self.assertIsNone(behind)
            for number in (len(groves), len(groves) + 1, 10 ** 39):
                with self.assertRaises(TooGreat) as caught:
                    plain_at(book, stock, roots, number)
                self.assertIs(type(caught.exception), TooGreat)

    def test_random_stocks(self):
        for bag, roots in some_bags(random_source(224), 60):
            book, stock = bag.book(), bag.stock()
            groves = every_plain(book, stock, roots)
            self.assertEqual([plain_at(book, stock, roots, k) for k in range(len(groves))], groves)
            self.assertEqual([plain_number(book, bushes) for bushes in groves], list(range(len(groves))))
            with self.assertRaises(TooGreat):
                plain_at(book, stock, roots, len(groves))

    def test_no_joints_and_no_plain_groves(self):
        self.assertEqual(plain_at(sample_book(), (0, 0, 0), (), 0), ())
        self.assertEqual(plain_number(sample_book(), ()), 0)
        self.assertIsNone(next_plain(sample_book(), ()))
        for book, stock, roots in NO_KINDS:
            with self.assertRaises(TooGreat):
                plain_at(book, stock, roots, 0)

    def test_thirty_joints(self):
        draw = random_source(225)
        book, stock, roots = Book(MIXED_BOOK), (8, 6, 7, 9), MANY_ROOTS
        whole = count_plain(book, stock, roots)
        self.assertGreater(whole, 10 ** 6)
        for number in [0, whole - 1] + [draw.randrange(whole) for _ in range(8)]:
            grove = plain_at(book, stock, roots, number)
            check_plain(book, roots, grove)
            self.assertEqual(stock_of(book, grove), stock)
            self.assertEqual(plain_number(book, grove), number)
            behind = next_plain(book, grove)
            self.assertEqual(None if behind is None else plain_number(book, behind), number + 1 if behind else None)
            self.assertIs(behind is None, number == whole - 1)
        with self.assertRaises(TooGreat):
            plain_at(book, stock, roots, whole)

    def test_numbers_of_groves_and_of_plain_groves(self):
        """The first naming of each plain grove comes in the order of the plain groves."""
        bag = sample_bag()
        plain = []
        for grove in groves_from(bag, ["red"], many=50):
            if plain_of(grove) not in plain:
                plain.append(plain_of(grove))
        self.assertEqual(plain, [plain_at(sample_book(), (1, 2, 2), ("red",), k) for k in range(3)])


if __name__ == "__main__":
    unittest.main()
