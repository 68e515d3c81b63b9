"""bushcoins.owners: S9.5."""

import itertools
import unittest

from bushcoins.books import Book
from bushcoins.counting import count_plain
from bushcoins.errors import TooGreat, UnknownName
from bushcoins.owners import can_have, dealings, dealt, holding, holdings, mean_holding
from bushcoins.plain import check_plain, stock_of
from tests.every import NO_KINDS, PLAIN_KINDS, every_plain, mean
from tests.lands import MIXED_BOOK, PLAIN_BOOK
from tests.samples import Case, anything, sample_book

PLAIN = Book(PLAIN_BOOK)
# Values of every kind that are no number of one of two roots.
NO_OWNERS = [value for value in anything() if not (type(value) is int and value in (0, 1))]
NO_OWNERS += [-1, 2, -2, "0", (0,), [0]]


def parts_of(stock):
    return list(itertools.product(*[range(many + 1) for many in stock]))


def fitting_kinds():
    """The kinds whose stocks are small enough for all holdings."""
    return [kind for kind in PLAIN_KINDS + NO_KINDS if len(parts_of(kind[1])) <= 300]


class TestHolding(Case):
    def test_against_a_look(self):
        for book, stock, roots in PLAIN_KINDS:
            for grove in every_plain(book, stock, roots)[::5]:
                told = [holding(book, grove, owner) for owner in range(len(roots))]
                self.assertEqual(told, [stock_of(book, (bush,)) for bush in grove])
                self.assertEqual(tuple(sum(column) for column in zip(*told)), stock)
                for part in told:
                    self.assertIs(type(part), tuple)
                self.assertEqual(holding(book, list(grove), 0), told[0])

    def test_owners_that_are_none(self):
        grove = (("z",), ("b", ("z",)))
        for value in NO_OWNERS:
            self.assert_unknown(UnknownName, value, holding, PLAIN, grove, value)
        self.assertEqual(holding(PLAIN, grove, 1), (0, 1, 1))
        self.assert_unknown(UnknownName, 0, holding, PLAIN, (), 0)


class TestDealings(Case):
    def test_against_all_plain_groves(self):
        met = 0
        for book, stock, roots in fitting_kinds():
            groves = every_plain(book, stock, roots)
            for owner in range(len(roots)):
                held = [stock_of(book, grove[owner:owner + 1]) for grove in groves]
                for part in parts_of(stock):
                    right = held.count(part)
                    told = dealings(book, roots, stock, owner, part)
                    self.assertIs(type(told), int)
                    self.assertEqual(told, right)
                    self.assertIs(can_have(book, roots, stock, owner, part), right > 0)
                    self.check_dealt(book, roots, stock, owner, part, right > 0)
                    met += right > 1
                right = [(part, held.count(part)) for part in sorted(set(held))]
                self.assertEqual(holdings(book, roots, stock, owner), right)
                for k, word in enumerate(book.words()):
                    right = mean([part[k] for part in held])
                    told = mean_holding(book, roots, stock, owner, word)
                    self.assertEqual(told, right)
                    if told is not None:
                        self.assertEqual([type(told)] + [type(number) for number in told], [tuple, int, int])
        self.assertGreater(met, 20)

    def check_dealt(self, book, roots, stock, owner, part, can):
        told = dealt(book, roots, stock, owner, part)
        if not can:
            self.assertIsNone(told)
            return
        self.assertIs(type(told), tuple)
        check_plain(book, roots, told)
        self.assertEqual(stock_of(book, told), stock)
        self.assertEqual(holding(book, told, owner), part)
        self.assertEqual(dealt(book, roots, stock, owner, part), told)

    def test_parts_that_nobody_can_have(self):
        roots, stock = ("c", "c"), (1, 2, 3)
        self.assertIs(can_have(PLAIN, roots, stock, 0, (1, 0, 2)), True)
        bad = [
            [1, 0, 2], (1, 0), (1, 0, 2, 0), (1, 0, -2), (1, -1, 2), (-1, 0, 1), (True, False, 2), (True, 0, 2),
            (1, False, 2), (1, 0, None),
            (1, 0, "2"), (1, 0, (2,)), (1, 0, 4), (2, 0, 3), (0, 0, 0), (1, 2, 3), (), (1, 0, 10 ** 39), ((1, 0, 2),),
            "102", {1: 0},
        ]
        for part in anything() + bad:
            for owner in (0, 1):
                self.assertEqual(dealings(PLAIN, roots, stock, owner, part), 0)
                self.assertIs(type(dealings(PLAIN, roots, stock, owner, part)), int)
                self.assertIs(can_have(PLAIN, roots, stock, owner, part), False)
                self.assertIsNone(dealt(PLAIN, roots, stock, owner, part))
        # With one shape a part is a tuple of one number.
        one = Book([("z", "c", ())])
        for part, right in (((1,), 1), ((True,), 0), ([1], 0), (1, 0), ((1, 0), 0), ((), 0)):
            self.assertEqual(dealings(one, roots, (2,), 0, part), right)

    def test_a_bush_without_a_rest_and_a_rest_without_a_bush(self):
        # The owner's bush can be put together, but not what is left, and the other way round.
        book = Book([("b", "c", ("c",)), ("z", "c", ()), ("r", "red", ()), ("w", "red", ("red",))])
        self.assertIs(can_have(book, ("c", "red"), (1, 1, 1, 0), 0, (1, 1, 0, 0)), True)
        self.assertIs(can_have(book, ("c", "red"), (1, 1, 1, 0), 0, (0, 1, 0, 0)), False)
        self.assertIs(can_have(book, ("c", "red"), (1, 1, 1, 0), 0, (1, 0, 0, 0)), False)
        self.assertIs(can_have(book, ("c",), (1, 1, 0, 0), 0, (1, 1, 0, 0)), True)
        self.assertIs(can_have(book, ("c",), (1, 1, 0, 0), 0, (0, 1, 0, 0)), False)

    def test_no_dealings_at_all(self):
        for book, stock, roots in NO_KINDS:
            for owner in range(len(roots)):
                self.assertEqual(holdings(book, roots, stock, owner), [])
                for word in book.words():
                    self.assertIsNone(mean_holding(book, roots, stock, owner, word))

    def test_shares_add_up_to_the_stock(self):
        for book, stock, roots in fitting_kinds():
            whole = count_plain(book, stock, roots)
            if whole:
                for word, many in zip(book.words(), stock):
                    shares = [mean_holding(book, roots, stock, owner, word) for owner in range(len(roots))]
                    self.assertEqual(sum(p * (whole // q) for p, q in shares), many * whole)

    def test_twenty_four_joints(self):
        book, stock, roots = Book(MIXED_BOOK), (6, 4, 6, 6), ("red", "blue", "blue", "red", "blue", "blue")
        self.assertGreater(count_plain(book, stock, roots), 10 ** 4)
        told = holdings(book, roots, stock, 0)
        self.assertEqual(sum(many for _, many in told), count_plain(book, stock, roots))
        self.assertEqual(told, sorted(told))
        part = told[len(told) // 2][0]
        self.check_dealt(book, roots, stock, 0, part, True)

    def test_lists_are_new(self):
        self.assert_new(lambda: holdings(PLAIN, ("c", "c"), (1, 1, 3), 0))
        self.assert_new(lambda: holdings(PLAIN, ("c", "c"), (1, 1, 1), 0))
        for row in holdings(PLAIN, ("c", "c"), (1, 1, 3), 0):
            self.assertEqual([type(row), type(row[0]), type(row[1])], [tuple, tuple, int])
        roots = ["c", "c"]
        holdings(PLAIN, roots, (1, 1, 3), 1)
        dealt(PLAIN, roots, (1, 1, 3), 1, (0, 0, 1))
        self.assertEqual(roots, ["c", "c"])
        self.assertEqual(holdings(PLAIN, roots, (1, 1, 3), 1), holdings(PLAIN, ("c", "c"), (1, 1, 3), 1))


class TestErrors(Case):
    def test_owners_come_first(self):
        roots, stock = ("c", "c"), (1, 2, 3)
        great = (20, 20, 20)
        for value in NO_OWNERS:
            for call in (dealings, can_have, dealt):
                self.assert_unknown(UnknownName, value, call, PLAIN, roots, stock, value, (1, 0, 2))
                self.assert_unknown(UnknownName, value, call, PLAIN, roots, stock, value, None)
            for many in (stock, great, (0, 0, 0)):
                self.assert_unknown(UnknownName, value, holdings, PLAIN, roots, many, value)
                self.assert_unknown(UnknownName, value, mean_holding, PLAIN, roots, many, value, "t")
                self.assert_unknown(UnknownName, value, mean_holding, PLAIN, roots, many, value, ["t"])
        self.assert_unknown(UnknownName, 0, holdings, PLAIN, (), (0, 0, 0), 0)

    def test_words_come_second(self):
        for stock in ((1, 2, 3), (20, 20, 20), (1, 2, 4)):
            for value in anything() + ["T", "t ", "red", ["t"], ("t",)]:
                self.assert_unknown(UnknownName, value, mean_holding, PLAIN, ("c", "c"), stock, 1, value)

    def test_great_stocks(self):
        # 9 * 10 * 22 is 1,980, 7 * 13 * 22 is 2,002, 10 * 10 * 20 just 2,000.
        for stock, great in (
            ((9, 9, 19), False), ((8, 9, 21), False), ((6, 12, 21), True), ((19, 9, 9), False), ((1, 0, 999), False),
            ((1, 0, 1000), True), ((10, 10, 20), True), ((0, 0, 1999), False), ((0, 0, 2000), True),
            ((0, 1, 999), False), ((0, 1, 1000), True),
        ):
            for owner in (0, 1):
                if not great:
                    holdings(PLAIN, ("c", "c"), stock, owner)
                    mean_holding(PLAIN, ("c", "c"), stock, owner, "t")
                    continue
                for call in (
                    lambda: holdings(PLAIN, ("c", "c"), stock, owner),
                    lambda: mean_holding(PLAIN, ("c", "c"), stock, owner, "t"),
                ):
                    with self.assertRaises(TooGreat) as caught:
                        call()
                    self.assertIs(type(caught.exception), TooGreat)

    def test_great_stocks_with_dealings_and_without(self):
        # t joints and two more z joints: the dealings exist.
        self.assertGreater(count_plain(PLAIN, (12, 12, 14), ("c", "c")), 0)
        self.assertEqual(count_plain(PLAIN, (12, 12, 12), ("c", "c")), 0)
        for stock in ((12, 12, 14), (12, 12, 12)):
            with self.assertRaises(TooGreat):
                holdings(PLAIN, ("c", "c"), stock, 0)
            with self.assertRaises(TooGreat):
                mean_holding(PLAIN, ("c", "c"), stock, 0, "z")
        # A great stock bars no other answers.
        self.assertGreater(dealings(PLAIN, ("c", "c"), (12, 12, 14), 0, (0, 0, 1)), 0)
        self.assertIs(can_have(PLAIN, ("c", "c"), (12, 12, 14), 0, (0, 0, 1)), True)

    def test_the_sample(self):
        self.assertEqual(holdings(sample_book(), ("blue", "blue"), (0, 2, 2), 0), [
            ((0, 0, 1), 1), ((0, 1, 1), 1), ((0, 2, 1), 1),
        ])
        self.assertEqual(mean_holding(sample_book(), ("blue", "blue"), (0, 2, 2), 1, "b"), (1, 1))
        self.assertEqual(mean_holding(sample_book(), ("blue", "red"), (1, 2, 3), 0, "b"), (2, 3))
        self.assertEqual(mean_holding(sample_book(), ("blue", "red"), (1, 2, 3), 0, "a"), (0, 1))


if __name__ == "__main__":
    unittest.main()
