"""Lexemes."""

import unittest

from bushcoins.errors import BadText
from bushcoins.lexemes import lexemes
from tests import oracles
from tests.samples import Case, random_source


class TestLexemes(Case):
    def check(self, text, told):
        found = lexemes(text)
        self.assertEqual(found, told)
        self.assertIs(type(found), list)
        for row in found:
            self.assertIs(type(row), tuple)
            self.assertEqual([type(member) for member in row], [str, str, int])

    def test_nothing(self):
        for text in ("", " ", "\n", "  \n \n\n "):
            self.check(text, [])

    def test_each_sort(self):
        self.check("word", [("word", "word", 0)])
        self.check("42", [("number", "42", 0)])
        for sign in "(){},;":
            self.check(sign, [("sign", sign, 0)])

    def test_signs_beside_each_other(self):
        self.check("(){},;", [("sign", sign, k) for k, sign in enumerate("(){},;")])
        self.check("a(b,c);", [
            ("word", "a", 0), ("sign", "(", 1), ("word", "b", 2), ("sign", ",", 3), ("word", "c", 4), ("sign", ")", 5),
            ("sign", ";", 6),
        ])

    def test_blanks_and_line_feeds_between_lexemes(self):
        self.check(" a \n b\n\n7 ", [("word", "a", 1), ("word", "b", 5), ("number", "7", 8)])
        self.check("\n(\n)", [("sign", "(", 1), ("sign", ")", 3)])

    def test_the_examples_of_the_document(self):
        self.check("12ab", [("number", "12", 0), ("word", "ab", 2)])
        self.check("007", [("number", "0", 0), ("number", "0", 1), ("number", "7", 2)])

    def test_numbers(self):
        self.check("0", [("number", "0", 0)])
        self.check("10", [("number", "10", 0)])
        self.check("100200", [("number", "100200", 0)])
        self.check("0a", [("number", "0", 0), ("word", "a", 1)])
        self.check("012", [("number", "0", 0), ("number", "12", 1)])
        self.check("00", [("number", "0", 0), ("number", "0", 1)])
        self.check("9 0 9", [("number", "9", 0), ("number", "0", 2), ("number", "9", 4)])
        self.check("1(2", [("number", "1", 0), ("sign", "(", 1), ("number", "2", 2)])
        self.check("1234567890123", [("number", "1234567890123", 0)])
        self.check("12abc3 4d", [("number", "12", 0), ("word", "abc3", 2), ("number", "4", 7), ("word", "d", 8)])
        long = "9" * 40
        self.check(long + "x", [("number", long, 0), ("word", "x", 40)])

    def test_words(self):
        self.check("a1b2", [("word", "a1b2", 0)])
        self.check("a007", [("word", "a007", 0)])
        self.check("root book", [("word", "root", 0), ("word", "book", 5)])

    def test_words_of_12_and_13_characters(self):
        self.check("abcdefghijkl", [("word", "abcdefghijkl", 0)])
        self.check("a12345678901", [("word", "a12345678901", 0)])
        self.check("abcdefghijkl(", [("word", "abcdefghijkl", 0), ("sign", "(", 12)])
        self.check("1abcdefghijkl", [("number", "1", 0), ("word", "abcdefghijkl", 1)])
        self.assert_place(BadText, 0, lexemes, "abcdefghijklm")
        self.assert_place(BadText, 0, lexemes, "abcdefghijkl1")
        self.assert_place(BadText, 0, lexemes, "a" * 300)
        self.assert_place(BadText, 3, lexemes, "ab abcdefghijklm cd")
        self.assert_place(BadText, 2, lexemes, "12abcdefghijklm")
        self.assert_place(BadText, 1, lexemes, "(abcdefghijklm\t")

    def test_characters_that_begin_no_lexeme(self):
        others = [chr(k) for k in range(33, 127)] + ["\t"]
        for letter in others:
            if not ("a" <= letter <= "z" or "0" <= letter <= "9" or letter in "(){},;"):
                self.assert_place(BadText, 0, lexemes, letter)
                self.assert_place(BadText, 0, lexemes, letter + "a")
                self.assert_place(BadText, 1, lexemes, "a" + letter)
                self.assert_place(BadText, 2, lexemes, "a " + letter + letter)
                self.assert_place(BadText, 2, lexemes, "10" + letter + "a")

    def test_the_first_of_several(self):
        self.assert_place(BadText, 2, lexemes, "a A abcdefghijklm")
        self.assert_place(BadText, 2, lexemes, "a abcdefghijklm A")
        self.assert_place(BadText, 4, lexemes, "a\nb Z\t")

    def test_lists_are_new(self):
        self.assert_new(lambda: lexemes("a (b, 3);"))

    def test_random_texts(self):
        draw = random_source(7)
        for _ in range(3000):
            text = "".join(draw.choice("ab0012z9 \n(){},;") for _ in range(draw.randrange(16)))
            if draw.random() < 0.2:
                k = draw.randrange(len(text) + 1)
                text = text[:k] + draw.choice(["\t", "A", ".", "abcdefghijklm"]) + text[k:]
            told, wrong = oracles.plain_lexemes(text)
            if wrong is None:
                self.assertEqual([row[1:] for row in lexemes(text)], told)
            else:
                self.assert_place(BadText, wrong, lexemes, text)

    def test_long_texts(self):
        text = "word 12 ;\n" * 4000
        self.assertEqual(len(lexemes(text)), 12000)
        self.assertEqual(lexemes(text)[-1], ("sign", ";", 39998))


if __name__ == "__main__":
    unittest.main()
