"""The oracles, at values that are told by hand."""

import unittest

from tests import oracles


class TestOracles(unittest.TestCase):
    def test_lexemes(self):
        self.assertEqual(oracles.plain_lexemes("12ab 007"), ([("12", 0), ("ab", 2), ("0", 5), ("0", 6), ("7", 7)], None))
        self.assertEqual(oracles.plain_lexemes("a\tb"), ([("a", 0)], 1))
        self.assertEqual(oracles.plain_lexemes("a abcdefghijklm"), ([("a", 0)], 2))

    def test_first_wrong_place(self):
        self.assertIsNone(oracles.first_wrong_place("book", "book{shape a red();}"))
        self.assertEqual(oracles.first_wrong_place("book", "book{shape a red()}"), 18)
        self.assertEqual(oracles.first_wrong_place("book", "book{"), 5)
        self.assertEqual(oracles.first_wrong_place("grove", "grove(){} x"), 10)
        self.assertEqual(oracles.first_wrong_place("script", "script{hang p 0 q;}"), 17)

    def test_first_grove_path(self):
        kinds = {"p": ("c", ("c",)), "q": ("c", ())}
        self.assertIsNone(oracles.first_grove_path(kinds, ("c",), [("p", ("q",))], True))
        self.assertEqual(oracles.first_grove_path(kinds, ("c",), [("q",)], True), ())
        self.assertEqual(oracles.first_grove_path(kinds, ("c",), [("p", ("p", 0))], True), (1, 0, 1, 0))
        self.assertEqual(oracles.first_grove_path(kinds, ("c",), [("p",)], False), (1, 0))

    def test_totals(self):
        from bushcoins.books import Book
        book = Book([("a", "c", ("c", "c")), ("b", "c", ())])
        told = oracles.totals_of(book, ("c",), (("a", ("b",), ("a", ("b",), ("b",))),))
        self.assertEqual(
            told,
            (("c",), (2, 3), ((None, 0, "a", 1), ("a", 0, "b", 2), ("a", 1, "a", 1), ("a", 1, "b", 1)), 3),
        )


if __name__ == "__main__":
    unittest.main()
