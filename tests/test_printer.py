"""The texts that are written."""

import unittest

from bushcoins.bags import Bag
from bushcoins.books import Book
from bushcoins.groves import Grove
from bushcoins.printer import bag_text, book_text, grove_text, plain_text, script_text
from tests.samples import Case, sample_bag, sample_book, sample_grove, wide_bag, wide_book, wide_grove


class TestTexts(Case):
    def test_the_book_of_the_document(self):
        book = Book([("a", "red", ("blue", "blue"))])
        self.assertEqual(book_text(book), "book {\nshape a red (blue, blue);\n}\n")

    def test_books(self):
        self.assertEqual(
            book_text(sample_book()),
            "book {\nshape a red (blue, blue);\nshape b blue (blue);\nshape z blue ();\n}\n",
        )
        self.assertEqual(
            book_text(wide_book()),
            "book {\nshape tree wood (leaf, wood, leaf);\nshape twig wood (leaf);\nshape bud leaf ();\n"
            "shape knob wood ();\n}\n",
        )
        self.assertEqual(book_text(Book([])), "book {\n}\n")

    def test_bags(self):
        self.assertEqual(
            bag_text(sample_bag()), "bag {\njoint p a;\njoint q b;\njoint r b;\njoint y z;\njoint z z;\n}\n"
        )
        self.assertEqual(bag_text(Bag(sample_book(), [])), "bag {\n}\n")

    def test_the_grove_of_the_document(self):
        self.assertEqual(grove_text(sample_grove()), "grove (red) {\np(q(r(z)), y);\n}\n")

    def test_groves(self):
        self.assertEqual(
            grove_text(wide_grove()),
            "grove (wood, leaf, wood, wood) {\nt(l2, u(l5, w(l1), l3), l4);\nl6;\nk;\nm;\n}\n",
        )
        self.assertEqual(grove_text(Grove(Bag(Book([]), []), [], [])), "grove () {\n}\n")

    def test_plain_groves(self):
        for kind in (list, tuple):
            self.assertEqual(
                plain_text(kind(["red"]), kind([("a", ("b", ("b", ("z",))), ("z",))])),
                "plain (red) {\na(b(b(z)), z);\n}\n",
            )
            self.assertEqual(plain_text(kind([]), kind([])), "plain () {\n}\n")
            self.assertEqual(
                plain_text(kind(["blue", "blue"]), kind([("z",), ("b", ("z",))])),
                "plain (blue, blue) {\nz;\nb(z);\n}\n",
            )

    def test_many_branches(self):
        self.assertEqual(
            plain_text(["c"], [("s", ("e",), ("s", ("e",), ("e",), ("e",)), ("e",))]),
            "plain (c) {\ns(e, s(e, e, e), e);\n}\n",
        )

    def test_scripts(self):
        for kind in (list, tuple):
            script = kind([
                ("hang", ("p", 1), ("q", 0)),
                ("stretch", ("p", 0), ("q", 0), ("p", 1), ("p", 1)),
                ("hang", ("root", 0), ("root", 12)),
            ])
            self.assertEqual(
                script_text(script),
                "script {\nhang p 1 q 0;\nstretch p 0 q 0 p 1 p 1;\nhang root 0 root 12;\n}\n",
            )
            self.assertEqual(script_text(kind([])), "script {\n}\n")

    def test_numbers_of_scripts(self):
        number = 10 ** 39 + 7
        self.assertEqual(script_text([("hang", ("x", 0), ("y", number))]), "script {\nhang x 0 y %d;\n}\n" % number)

    def test_names_that_are_words_of_forms(self):
        book = Book([("book", "shape", ("joint", "root")), ("joint", "joint", ()), ("root", "root", ())])
        self.assertEqual(
            book_text(book), "book {\nshape book shape (joint, root);\nshape joint joint ();\nshape root root ();\n}\n"
        )
        bag = Bag(book, [("bag", "book"), ("joint", "joint"), ("hang", "root")])
        self.assertEqual(bag_text(bag), "bag {\njoint bag book;\njoint joint joint;\njoint hang root;\n}\n")
        grove = Grove(bag, ["shape"], [("bag", ("joint",), ("hang",))])
        self.assertEqual(grove_text(grove), "grove (shape) {\nbag(joint, hang);\n}\n")
        self.assertEqual(
            script_text([("hang", ("hang", 0), ("stretch", 1))]), "script {\nhang hang 0 stretch 1;\n}\n"
        )

    def test_plain_strings_and_nothing_modified(self):
        roots, bushes, script = ["red"], [("a", ("z",), ("z",))], [("hang", ("p", 0), ("p", 1))]
        for text in (plain_text(roots, bushes), script_text(script), grove_text(sample_grove())):
            self.assertIs(type(text), str)
        self.assertEqual((roots, bushes), (["red"], [("a", ("z",), ("z",))]))
        self.assertEqual(script, [("hang", ("p", 0), ("p", 1))])
        self.assertEqual(bag_text(wide_bag()), bag_text(wide_bag()))

    def test_sixty_joints_one_beneath_the_other(self):
        bush = ("z",)
        for _ in range(80):
            bush = ("b", bush)
        self.assertEqual(plain_text(["blue"], [bush]), "plain (blue) {\n" + "b(" * 80 + "z" + ")" * 80 + ";\n}\n")


if __name__ == "__main__":
    unittest.main()
