"""Texts that are read: what was written, the first wrong place, and what a text tells wrongly."""

import unittest

from bushcoins.bags import Bag
from bushcoins.books import Book
from bushcoins.errors import BadBag, BadBook, BadGrove, BadText
from bushcoins.groves import Grove
from bushcoins.lexemes import lexemes
from bushcoins.plain import named
from bushcoins.printer import bag_text, book_text, grove_text, plain_text, script_text
from bushcoins.reader import read_bag, read_book, read_grove, read_plain, read_script
from tests import oracles
from tests.samples import (
    Case, random_plain, random_source, sample_bag, sample_book, sample_grove, wide_bag, wide_book, wide_grove,
)

WIDE_PLAIN = (("tree", ("bud",), ("twig", ("bud",)), ("bud",)), ("bud",))
SCRIPT = [
    ("hang", ("p", 1), ("q", 0)),
    ("stretch", ("p", 0), ("q", 0), ("p", 1), ("p", 1)),
    ("hang", ("root", 0), ("hang", 10 ** 39)),
]

# A text of each form, and what reads it.
TEXTS = {
    "book": (book_text(wide_book()), read_book),
    "bag": (bag_text(sample_bag()), lambda text: read_bag(sample_book(), text)),
    "grove": (grove_text(wide_grove()), lambda text: read_grove(wide_bag(), text)),
    "plain": (plain_text(("wood", "leaf"), WIDE_PLAIN), lambda text: read_plain(wide_book(), text)),
    "script": (script_text(SCRIPT), read_script),
}


def words_book():
    """A book in which words and colours are also words of the forms."""
    return Book([
        ("book", "shape", ("joint", "hang")), ("joint", "joint", ()), ("hang", "hang", ("hang",)), ("root", "hang", ()),
    ])


def words_bag():
    return Bag(words_book(), [("book", "book"), ("grove", "joint"), ("plain", "hang"), ("stretch", "root")])


def words_grove():
    return Grove(words_bag(), ["shape"], [("book", ("grove",), ("plain", ("stretch",)))])


class TestReadBack(Case):
    def test_books(self):
        many = Book([(f"s{k}", f"c{k}", tuple(f"c{j}" for j in range(24))) for k in range(24)])
        for book in (sample_book(), wide_book(), words_book(), Book([]), many):
            self.assert_equal_objects(read_book(book_text(book)), book)

    def test_bags(self):
        many = Bag(sample_book(), [(f"n{k}", "z") for k in range(60)])
        for bag in (sample_bag(), wide_bag(), words_bag(), Bag(sample_book(), []), Bag(Book([]), []), many):
            self.assert_equal_objects(read_bag(bag.book(), bag_text(bag)), bag)

    def test_groves(self):
        empty = Grove(Bag(Book([]), []), [], [])
        for grove in (sample_grove(), wide_grove(), words_grove(), empty):
            self.assert_equal_objects(read_grove(grove.bag(), grove_text(grove)), grove)

    def test_plain_groves(self):
        for kind in (list, tuple):
            text = plain_text(kind(("wood", "leaf")), kind(WIDE_PLAIN))
            told = read_plain(wide_book(), text)
            self.assertEqual(told, (("wood", "leaf"), WIDE_PLAIN))
            self.assertEqual([type(told), type(told[0]), type(told[1]), type(told[1][0])], [tuple] * 4)
        self.assertEqual(read_plain(wide_book(), plain_text([], [])), ((), ()))

    def test_scripts(self):
        for script in (SCRIPT, tuple(SCRIPT), []):
            told = read_script(script_text(script))
            self.assertEqual(told, list(script))
            self.assertIs(type(told), list)
        for deed in read_script(script_text(SCRIPT)):
            self.assertEqual([type(deed)] + [type(place) for place in deed[1:]], [tuple] * len(deed))
            self.assertEqual([type(member) for place in deed[1:] for member in place], [str, int] * (len(deed) - 1))
        self.assert_new(lambda: read_script(script_text(SCRIPT)))

    def test_random_plain_groves(self):
        draw = random_source(8)
        for _ in range(60):
            roots = tuple(draw.choice(("wood", "leaf")) for _ in range(draw.randrange(5)))
            bushes = random_plain(draw, wide_book(), roots, 20)
            text = plain_text(roots, bushes)
            self.assertEqual(read_plain(wide_book(), text), (roots, bushes))
            self.assertEqual(read_plain(wide_book(), self.loosened(draw, text)), (roots, bushes))
            grove = named(wide_book(), roots, bushes)
            self.assertEqual(read_grove(grove.bag(), self.loosened(draw, grove_text(grove))), grove)
            self.assertEqual(read_bag(wide_book(), self.loosened(draw, bag_text(grove.bag()))), grove.bag())

    def loosened(self, draw, text):
        """The text with any blanks and line feeds between its lexemes, only where words would grow together not none."""
        gaps = ["", "", " ", "\n", "  ", " \n ", "\n\n"]
        found = draw.choice(gaps)
        letters = "abcdefghijklmnopqrstuvwxyz0123456789"
        for _, lexeme, _ in lexemes(text):
            if found[-1:] in letters and found and lexeme[0] in letters:
                found += draw.choice(gaps[2:])
            found += lexeme
            found += draw.choice(gaps)
        return found

    def test_blanks_and_line_feeds_put_in_or_left_out(self):
        draw = random_source(9)
        for text, read in TEXTS.values():
            told = read(text)
            for _ in range(40):
                self.assertEqual(read(self.loosened(draw, text)), told)

    def test_as_close_as_may_be(self):
        self.assertEqual(read_book("book{shape a red(blue,blue);shape b blue(blue);shape z blue();}"), sample_book())
        self.assertEqual(read_bag(sample_book(), "bag{joint p a;}").joints(), [("p", "a")])
        self.assertEqual(read_grove(sample_bag(), "grove(red){p(q(r(z)),y);}"), sample_grove())
        self.assertEqual(read_plain(sample_book(), "plain(blue){z;}"), (("blue",), (("z",),)))
        self.assertEqual(read_script("script{hang p 0q 1;}"), [("hang", ("p", 0), ("q", 1))])
        self.assertEqual(read_script("script{hang p 10q0 1;}"), [("hang", ("p", 10), ("q0", 1))])

    def test_as_wide_as_may_be(self):
        self.assertEqual(
            read_grove(sample_bag(), "\n\n grove\n(  red )\n{ p\n ( q ( r ( z\n ) ) , y ) \n; } \n "), sample_grove()
        )
        self.assertEqual(read_book(" book { shape z blue ( ) ; } "), Book([("z", "blue", ())]))

    def test_the_limits(self):
        deep = ("z",)
        for _ in range(75):
            deep = ("b", deep)
        text = plain_text(["blue"], [deep])
        self.assertEqual(read_plain(sample_book(), text), (("blue",), (deep,)))
        roots, bushes = ("red",) * 400, (("a", ("b", ("b", ("z",))), ("z",)),) * 400
        text = plain_text(roots, bushes)
        self.assertGreaterEqual(text.count("z") + text.count("a") + text.count("b"), 2000)
        self.assertEqual(read_plain(sample_book(), text), (roots, bushes))
        number = int("9876543210" * 4)
        script = [("hang", ("p", number), ("q", number + 1))] * 120
        self.assertEqual(read_script(script_text(script)), script)
        bag = Bag(sample_book(), [(f"n{k}", "z") for k in range(2000)])
        self.assertEqual(read_bag(sample_book(), bag_text(bag)), bag)


class TestFirstWrongPlace(Case):
    def test_told_by_hand(self):
        for form, text, place in (
            ("book", "", 0),
            ("book", "   ", 3),
            ("book", " \n", 2),
            ("book", "book", 4),
            ("book", "book ", 5),
            ("book", "book {", 6),
            ("book", "bag {}", 0),
            ("book", "Book {}", 0),
            ("book", "boo", 0),
            ("book", "books {}", 0),
            ("book", "book (", 5),
            ("book", "book {shape", 11),
            ("book", "book {shapes", 6),
            ("book", "book {joint", 6),
            ("book", "book {;}", 6),
            ("book", "book {shape a red ()}", 20),
            ("book", "book {shape a red;}", 17),
            ("book", "book {shape a (red)}", 14),
            ("book", "book {shape a red (,)}", 19),
            ("book", "book {shape a red (b,)}", 21),
            ("book", "book {shape a red (b c)}", 21),
            ("book", "book {shape a red (b, 1)}", 22),
            ("book", "book {shape 1 red ();}", 12),
            ("book", "book {shape a red ();};", 22),
            ("book", "book {} {}", 8),
            ("book", "book {} book {}", 8),
            ("book", "book {}\t", 7),
            ("book", "book\t{}", 4),
            ("book", "\tbook {}", 0),
            ("book", "book {shape abcdefghijklm red ();}", 12),
            ("book", "book {shape a red ();", 21),
            ("bag", "bag {joint p a}", 14),
            ("bag", "bag {joint p a b;}", 15),
            ("bag", "bag {joint p;}", 12),
            ("bag", "bag {shape p a;}", 5),
            ("bag", "bag ()", 4),
            ("grove", "grove {}", 6),
            ("grove", "grove () {p()}", 12),
            ("grove", "grove () {p(q,);}", 14),
            ("grove", "grove () {p(q;}", 13),
            ("grove", "grove () {p(q));}", 14),
            ("grove", "grove () {p q;}", 12),
            ("grove", "grove () {p(q r)}", 14),
            ("grove", "grove () {p, q;}", 11),
            ("grove", "grove () {(p);}", 10),
            ("grove", "grove () {p(q)(r);}", 14),
            ("grove", "grove () {p 0;}", 12),
            ("grove", "grove () {p(q}", 13),
            ("grove", "grove () {p(q", 13),
            ("grove", "grove () {p(q)", 14),
            ("grove", "grove () {p(q);", 15),
            ("grove", "grove (red", 10),
            ("grove", "grove (red,", 11),
            ("grove", "grove (red, ) {}", 12),
            ("grove", "plain () {}", 0),
            ("plain", "grove () {}", 0),
            ("plain", "plain () {}}", 11),
            ("plain", "plain () {} \n.", 13),
            ("script", "script {hang p 0 q;}", 18),
            ("script", "script {hang p q 0;}", 15),
            ("script", "script {hang p 0 q 1 r 2;}", 21),
            ("script", "script {hang p 007 q 1;}", 16),
            ("script", "script {hang p 0 1 q;}", 17),
            ("script", "script {stretch p 0 q 1;}", 23),
            ("script", "script {stretch p 0 q 1 r 2 s 3}", 31),
            ("script", "script {stretch p 0 q 1 r 2 s 3 t 4;}", 32),
            ("script", "script {hanged p 0 q 1;}", 8),
            ("script", "script {hang p 0, q 1;}", 16),
            ("script", "script {hang p -1 q 1;}", 15),
            ("script", "script hang p 0 q 1;", 7),
        ):
            with self.subTest(text=text):
                self.assertEqual(oracles.first_wrong_place(form, text), place)
                self.assert_place(BadText, place, TEXTS[form][1], text)

    def test_other_forms_texts(self):
        for form, (_, read) in TEXTS.items():
            for other, (text, _) in TEXTS.items():
                if form != other:
                    self.assert_place(BadText, 0, read, text)

    def check(self, form, text):
        """The reader refuses the text for its first wrong place, if it has one."""
        place = oracles.first_wrong_place(form, text)
        read = TEXTS[form][1]
        if place is not None:
            self.assert_place(BadText, place, read, text)
        else:
            try:
                read(text)
            except (BadBook, BadBag, BadGrove):
                pass
        return place is not None

    def test_cut_at_every_place(self):
        for form, (text, _) in TEXTS.items():
            for k in range(len(text) - 1):
                self.assertTrue(self.check(form, text[:k]))
            self.assertFalse(self.check(form, text[:-1]))

    def test_a_lexeme_left_out(self):
        for form, (text, _) in TEXTS.items():
            for _, lexeme, place in lexemes(text):
                self.check(form, text[:place] + " " * len(lexeme) + text[place + len(lexeme):])
                self.check(form, text[:place] + text[place + len(lexeme):])

    def test_a_lexeme_put_in(self):
        for form, (text, _) in TEXTS.items():
            for _, _, place in lexemes(text) + [("", "", len(text))]:
                for other in ("(", ")", "{", "}", ",", ";", "word", "0", "17", "shape", "hang", "root", "\t", "A"):
                    self.check(form, text[:place] + " " + other + " " + text[place:])
                    self.check(form, text[:place] + other + text[place:])

    def test_a_lexeme_exchanged(self):
        for form, (text, _) in TEXTS.items():
            for _, lexeme, place in lexemes(text):
                for other in ("(", ")", "{", "}", ",", ";", "word", "3", "joint", "stretch", "abcdefghijklm", "."):
                    self.check(form, text[:place] + other + text[place + len(lexeme):])

    def test_two_lexemes_change_places(self):
        for form, (text, _) in TEXTS.items():
            found = [row[1] for row in lexemes(text)]
            for k in range(len(found) - 1):
                mixed = found[:k] + [found[k + 1], found[k]] + found[k + 2:]
                self.check(form, " ".join(mixed))

    def test_a_character_that_begins_none_and_a_wrong_lexeme(self):
        for form, (text, _) in TEXTS.items():
            places = [place for _, _, place in lexemes(text)]
            for k in range(1, len(places), 3):
                ahead = text[:places[k]] + " ;; " + text[places[k]:] + "\t"
                behind = text[:places[k]] + "\t" + text[places[k]:] + ";"
                self.assertTrue(self.check(form, ahead))
                self.assertTrue(self.check(form, behind))
                self.assert_place(BadText, places[k], TEXTS[form][1], behind)
                # What begins no lexeme comes behind an incomplete text.
                self.assert_place(BadText, places[k], TEXTS[form][1], text[:places[k]] + "?")

    def test_something_behind_the_end(self):
        for form, (text, read) in TEXTS.items():
            for more in ("(", "}", ";", "word", "0", "\t", form, text, "abcdefghijklm"):
                self.assert_place(BadText, len(text), read, text + more)
                self.assert_place(BadText, len(text) + 2, read, text + " \n" + more)
            self.assertEqual(read(text + "\n \n"), read(text))

    def test_random_changes(self):
        draw = random_source(10)
        signs = ["(", ")", "{", "}", ",", ";", " ", "\n", "a", "q", "0", "7", "hang", "\t"]
        refused = 0
        for _ in range(1500):
            form = draw.choice(list(TEXTS))
            text = TEXTS[form][0]
            for _ in range(draw.randrange(1, 4)):
                k = draw.randrange(len(text) + 1)
                text = text[:k] + draw.choice(signs + [""]) + text[k + draw.randrange(3):]
            refused += self.check(form, text)
        self.assertGreater(refused, 1000)


class TestWrongTellings(Case):
    def test_books(self):
        self.assert_path(BadBook, (1, 0), read_book, "book {shape a red (); shape a blue ();}")
        self.assert_path(BadBook, (2, 0), read_book, "book {shape a c (); shape b c (a); shape a c ();}")

    def test_bags(self):
        for text, path in (
            ("bag {joint root a;}", (0, 0)),
            ("bag {joint p a; joint p b;}", (1, 0)),
            ("bag {joint p red;}", (0, 1)),
            ("bag {joint p a; joint q c; joint q a;}", (1, 1)),
        ):
            self.assert_path(BadBag, path, read_bag, sample_book(), text)

    def test_groves(self):
        for text, path in (
            ("grove () {}", ()),
            ("grove (red) {}", (1,)),
            ("grove () {p;}", (1,)),
            ("grove (red) {p(q(r(z)), y); y;}", (1,)),
            ("grove (red) {a(q(r(z)), y);}", (1, 0, 0)),
            ("grove (blue) {p(q(r(z)), y);}", (1, 0, 0)),
            ("grove (red) {p(q(r(z)));}", (1, 0)),
            ("grove (red) {p(q(r(z)), y, x);}", (1, 0)),
            ("grove (red) {p(q(r(z)), z);}", (1, 0, 2, 0)),
            ("grove (red) {p(q(r), y);}", (1, 0, 1, 1)),
            ("grove (red) {p(y, z);}", ()),
            ("grove (red) {root;}", (1, 0, 0)),
        ):
            self.assert_path(BadGrove, path, read_grove, sample_bag(), text)

    def test_plain_groves(self):
        for text, path in (
            ("plain (red) {}", (1,)),
            ("plain () {z;}", (1,)),
            ("plain (blue) {z; z;}", (1,)),
            ("plain (red) {p;}", (1, 0, 0)),
            ("plain (green) {z;}", (1, 0, 0)),
            ("plain (red) {a(z);}", (1, 0)),
            ("plain (red) {a(z, z, z);}", (1, 0)),
            ("plain (red) {a(b, q);}", (1, 0, 1)),
            ("plain (red) {a(z, a(z, z));}", (1, 0, 2, 0)),
            ("plain (blue, red) {b(z); a(z, z(z));}", (1, 1, 2)),
        ):
            self.assert_path(BadGrove, path, read_plain, sample_book(), text)

    def test_a_wrong_place_comes_ahead(self):
        self.assert_place(BadText, 40, read_book, "book {shape a red (); shape a blue ();} .")
        self.assert_place(BadText, 24, read_bag, sample_book(), "bag {joint root a; joint}")
        self.assert_place(BadText, 19, read_bag, sample_book(), "bag {joint p nobody")
        self.assert_place(BadText, 19, read_grove, sample_bag(), "grove (red) {nobody")
        self.assert_place(BadText, 20, read_grove, sample_bag(), "grove () {p; q; r(z), }")
        self.assert_place(BadText, 21, read_plain, sample_book(), "plain (red) {nothing;")
        self.assert_place(BadText, 21, read_plain, sample_book(), "plain (red) {nothing;;}")

    def test_names_are_told_as_they_stand(self):
        self.assertEqual(read_plain(sample_book(), "plain (blue) {b(b(z));}"), (("blue",), (("b", ("b", ("z",))),)))
        bag = read_bag(sample_book(), "bag {joint joint a; joint z z; joint bag b;}")
        self.assertEqual(bag.joints(), [("joint", "a"), ("z", "z"), ("bag", "b")])
        self.assertEqual(bag.book(), sample_book())


if __name__ == "__main__":
    unittest.main()
