"""Books."""

import unittest

from bushcoins.bags import Bag
from bushcoins.books import Book
from bushcoins.errors import BadBook, UnknownName
from tests.samples import SHAPES, Case, anything, nested, sample_bag, sample_book, sample_grove, wide_book

GOOD = ("a", "red", ("blue", "blue"))

# Pairs of what is passed and the path of its first wrong part.
WRONG = [
    # no list
    (None, ()),
    ("", ()),
    ("abc", ()),
    (5, ()),
    (True, ()),
    ({}, ()),
    ({"a": 1}, ()),
    # no tuple with three members
    ([None], (0,)),
    (["abc"], (0,)),
    ([[]], (0,)),
    ([()], (0,)),
    ([["a", "red", ()]], (0,)),
    ([("a", "red")], (0,)),
    ([("a", "red", (), ())], (0,)),
    ([GOOD, 7], (1,)),
    ([GOOD, {"a": 1, "b": 2, "c": 3}], (1,)),
    # the word
    ([("", "red", ())], (0, 0)),
    ([("A", "red", ())], (0, 0)),
    ([("1a", "red", ())], (0, 0)),
    ([("abcdefghijklm", "red", ())], (0, 0)),
    ([("a\n", "red", ())], (0, 0)),
    ([(None, "red", ())], (0, 0)),
    ([(["a"], "red", ())], (0, 0)),
    ([({}, "red", ())], (0, 0)),
    ([GOOD, ("a", "red", ())], (1, 0)),
    ([GOOD, ("b", "red", ()), ("a", "blue", ("red",))], (2, 0)),
    ([GOOD, ("b", "red", ()), ("b", "blue", ("red",))], (2, 0)),
    # the stem
    ([("a", "", ())], (0, 1)),
    ([("a", "Red", ())], (0, 1)),
    ([("a", None, ())], (0, 1)),
    ([("a", ("red",), ())], (0, 1)),
    ([("a", ["red"], ())], (0, 1)),
    ([GOOD, ("b", 0, ())], (1, 1)),
    # the branches
    ([("a", "red", [])], (0, 2)),
    ([("a", "red", ["blue"])], (0, 2)),
    ([("a", "red", "blue")], (0, 2)),
    ([("a", "red", None)], (0, 2)),
    ([("a", "red", {})], (0, 2)),
    ([("a", "red", True)], (0, 2)),
    # a branch
    ([("a", "red", (None,))], (0, 2, 0)),
    ([("a", "red", ("blue", "Blue"))], (0, 2, 1)),
    ([("a", "red", ("blue", "blue", ["blue"], "x"))], (0, 2, 2)),
    ([("a", "red", ("blue", ("blue",)))], (0, 2, 1)),
    ([("a", "red", ("abcdefghijkl", "abcdefghijklm"))], (0, 2, 1)),
    # two wrong parts at once: the first one in order
    ([("A", "Red", [])], (0, 0)),
    ([("a", "Red", [])], (0, 1)),
    ([("a", "Red", ("Blue",))], (0, 1)),
    ([("a", "red", ("Blue", "Red"))], (0, 2, 0)),
    ([("a", "red", ("blue", "Blue", "Red"))], (0, 2, 1)),
    ([("A", "red", ()), None], (0, 0)),
    ([("a", "red", (7,)), None], (0, 2, 0)),
    ([GOOD, ("a", "Red", 5), None], (1, 0)),
    ([GOOD, ("b", "Red", 5), ("a", "red", ())], (1, 1)),
    ([GOOD, ("b", "red", ("1",)), ("a", "red", ())], (1, 2, 0)),
]


class TestWrongBooks(Case):
    def test_the_first_wrong_part(self):
        for shapes, path in WRONG:
            with self.subTest(shapes=shapes):
                self.assert_path(BadBook, path, Book, shapes)

    def test_the_same_in_a_tuple(self):
        for shapes, path in WRONG:
            if isinstance(shapes, list):
                self.assert_path(BadBook, path, Book, tuple(shapes))

    def test_anything(self):
        for value in anything():
            if isinstance(value, (list, tuple)):
                if len(value) == 0:
                    self.assertEqual(Book(value).shapes(), [])
                elif value != [("a", "red", ())]:
                    self.assertRaises(BadBook, Book, value)
            else:
                self.assert_path(BadBook, (), Book, value)

    def test_anything_in_each_part(self):
        for value in anything():
            if not isinstance(value, tuple) or len(value) != 3:
                self.assert_path(BadBook, (0,), Book, [value])
            self.assert_path(BadBook, (0, 0), Book, [(value, "red", ())])
            self.assert_path(BadBook, (0, 1), Book, [("a", value, ())])
            self.assert_path(BadBook, (0, 2, 1), Book, [("a", "red", ("red", value))])
            if not isinstance(value, tuple):
                self.assert_path(BadBook, (0, 2), Book, [("a", "red", value)])

    def test_objects_are_no_lists(self):
        for value in (sample_book(), sample_bag(), sample_grove()):
            self.assert_path(BadBook, (), Book, value)
        self.assert_path(BadBook, (), Book, nested(70, "dict"))

    def test_an_error_comes_again_alike(self):
        for _ in range(2):
            self.assert_path(BadBook, (1, 0), Book, [GOOD, GOOD])


class TestBooks(Case):
    def test_shapes_and_words(self):
        for shapes in (list(SHAPES), SHAPES):
            book = Book(shapes)
            self.assertEqual(book.shapes(), list(SHAPES))
            self.assertEqual(book.words(), ["a", "b", "z"])

    def test_the_order_is_that_of_the_shapes(self):
        book = Book([("z", "c", ()), ("a", "c", ()), ("m", "b", ())])
        self.assertEqual(book.words(), ["z", "a", "m"])
        self.assertEqual(book.shapes(), [("z", "c", ()), ("a", "c", ()), ("m", "b", ())])

    def test_colours_in_the_order_in_which_they_first_come(self):
        self.assertEqual(sample_book().colours(), ["red", "blue"])
        self.assertEqual(wide_book().colours(), ["wood", "leaf"])
        book = Book([("a", "c", ("e", "b", "e")), ("d", "x", ("c", "a")), ("e", "b", ("x", "new"))])
        self.assertEqual(book.colours(), ["c", "e", "b", "x", "a", "new"])
        self.assertEqual(Book([("a", "b", ("a", "b"))]).colours(), ["b", "a"])

    def test_the_empty_book(self):
        for shapes in ([], ()):
            book = Book(shapes)
            self.assertEqual((book.shapes(), book.words(), book.colours()), ([], [], []))

    def test_shape_stem_branches(self):
        book = sample_book()
        for word, stem, branches in SHAPES:
            self.assertEqual(book.shape(word), (word, stem, branches))
            self.assertEqual(book.stem(word), stem)
            self.assertEqual(book.branches(word), branches)
            self.assertIs(type(book.shape(word)), tuple)
            self.assertIs(type(book.branches(word)), tuple)

    def test_unknown_words(self):
        book = sample_book()
        for value in anything() + ["red", "blue", "root", "c", ["a"], ("a",), ("a", "red", ("blue", "blue")), "a "]:
            self.assert_unknown(UnknownName, value, book.shape, value)
            self.assert_unknown(UnknownName, value, book.stem, value)
            self.assert_unknown(UnknownName, value, book.branches, value)

    def test_a_word_may_be_root_and_a_colour(self):
        book = Book([("root", "root", ("root", "red"))])
        self.assertEqual(book.stem("root"), "root")
        self.assertEqual(book.colours(), ["root", "red"])

    def test_lists_are_new(self):
        book = sample_book()
        self.assert_new(book.shapes)
        self.assert_new(book.words)
        self.assert_new(book.colours)

    def test_nothing_passed_is_kept_or_modified(self):
        shapes = list(SHAPES)
        book = Book(shapes)
        self.assertEqual(shapes, list(SHAPES))
        shapes.append(("more", "red", ()))
        shapes[0] = None
        self.assertEqual(book.shapes(), list(SHAPES))
        self.assertEqual(book.words(), ["a", "b", "z"])

    def test_the_limits(self):
        shapes = [(f"s{k}", f"c{k}", tuple(f"c{j}" for j in range(24))) for k in range(30)]
        book = Book(shapes)
        self.assertEqual(book.shapes(), shapes)
        self.assertEqual(len(book.colours()), 30)
        self.assertEqual(len(book.branches("s29")), 24)


class TestEquality(Case):
    def test_equal_books(self):
        self.assert_equal_objects(sample_book(), sample_book())
        self.assert_equal_objects(Book(list(SHAPES)), Book(SHAPES))
        self.assert_equal_objects(Book([]), Book(()))
        book = sample_book()
        self.assert_equal_objects(book, book)

    def test_books_that_differ_in_one_part(self):
        book = sample_book()
        others = [
            SHAPES[:2],
            SHAPES + (("more", "red", ()),),
            (SHAPES[1], SHAPES[0], SHAPES[2]),
            (("c", "red", ("blue", "blue")),) + SHAPES[1:],
            (("a", "blue", ("blue", "blue")),) + SHAPES[1:],
            (("a", "red", ("blue", "red")),) + SHAPES[1:],
            (("a", "red", ("blue",)),) + SHAPES[1:],
            (("a", "red", ()),) + SHAPES[1:],
            (),
        ]
        for shapes in others:
            self.assert_unequal_objects(book, Book(shapes))

    def test_other_values(self):
        for value in anything() + [list(SHAPES), SHAPES, {}]:
            if not isinstance(value, Book):
                self.assert_unequal_objects(sample_book(), value)
        self.assert_unequal_objects(Book([]), Bag(Book([]), []))
        self.assert_unequal_objects(Book([]), [])


if __name__ == "__main__":
    unittest.main()
