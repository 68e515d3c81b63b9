"""Words."""

import unittest

from bushcoins.words import is_index, is_number, is_word
from tests.samples import Case, anything


class TestIsWord(Case):
    def test_words(self):
        for value in ("a", "z", "m5", "a0", "a9", "root", "abc", "x12345678901", "abcdefghijkl", "book", "z9z"):
            self.assertIs(is_word(value), True, value)

    def test_every_letter_and_digit(self):
        for letter in "abcdefghijklmnopqrstuvwxyz":
            self.assertIs(is_word(letter), True)
            self.assertIs(is_word("a" + letter), True)
        for digit in "0123456789":
            self.assertIs(is_word("a" + digit), True)
            self.assertIs(is_word(digit), False)
            self.assertIs(is_word(digit + "a"), False)

    def test_lengths(self):
        self.assertIs(is_word(""), False)
        self.assertIs(is_word("a"), True)
        self.assertIs(is_word("a" * 12), True)
        self.assertIs(is_word("a" * 13), False)
        self.assertIs(is_word("a" * 500), False)

    def test_every_other_character(self):
        others = [chr(k) for k in range(32, 127)] + ["\t", "\n"]
        for letter in others:
            if not ("a" <= letter <= "z" or "0" <= letter <= "9"):
                for value in (letter, letter + "a", "a" + letter, "a" + letter + "a"):
                    self.assertIs(is_word(value), False, repr(value))

    def test_upper_case(self):
        for value in ("A", "Ab", "aB", "abC", "ABC"):
            self.assertIs(is_word(value), False, value)

    def test_line_feed_at_the_end(self):
        for value in ("a\n", "abc\n", "abcdefghijk\n", "abcdefghijkl\n", "\na"):
            self.assertIs(is_word(value), False, repr(value))

    def test_values_that_are_no_strings(self):
        for value in anything():
            if not isinstance(value, str):
                self.assertIs(is_word(value), False)
        for value in (["a"], ("a",), {"a": "a"}, ["a", "b"], ("a", "b")):
            self.assertIs(is_word(value), False)


class TestNumbers(Case):
    def test_numbers(self):
        for value in (0, 1, -1, 7, 10 ** 39, -(10 ** 39)):
            self.assertIs(is_number(value), True)
        for value in anything():
            self.assertIs(is_number(value), type(value) is int)
            self.assertIs(is_index(value, 2), type(value) is int and value in (0, 1))

    def test_indexes(self):
        self.assertEqual([is_index(k, 3) for k in range(-2, 5)], [False, False, True, True, True, False, False])
        self.assertIs(is_index(0, 0), False)


if __name__ == "__main__":
    unittest.main()
