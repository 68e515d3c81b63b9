"""Texts of plain groves that are handed in piece by piece."""

import unittest

from bushcoins.books import Book
from bushcoins.errors import BadGrove, BadText
from bushcoins.plain import stock_of
from bushcoins.printer import plain_text
from bushcoins.reader import read_plain
from bushcoins.streams import PlainStream
from tests import oracles
from tests.samples import Case, random_plain, random_source, sample_book, wide_book

TEXT = "plain (red) {\na(b(b(z)), z);\n}\n"
TOTALS = (
    ("red",),
    (1, 2, 2),
    ((None, 0, "a", 1), ("a", 0, "b", 1), ("a", 1, "z", 1), ("b", 0, "b", 1), ("b", 0, "z", 1)),
    4,
)


def fed(book, *pieces):
    stream = PlainStream(book)
    for piece in pieces:
        stream.feed(piece)
    return stream


class TestTotals(Case):
    def check_kinds(self, totals):
        self.assertEqual([type(member) for member in totals], [tuple, tuple, tuple, int])
        self.assertIs(type(totals), tuple)
        for row in totals[2]:
            self.assertIs(type(row), tuple)
            self.assertEqual([type(member) for member in row[1:]], [int, str, int])

    def test_a_text_fed_whole(self):
        stream = PlainStream(sample_book())
        self.assertIsNone(stream.feed(TEXT))
        self.assertEqual(stream.totals(), TOTALS)
        self.check_kinds(stream.totals())

    def test_character_by_character(self):
        stream = PlainStream(sample_book())
        for letter in TEXT:
            self.assertIsNone(stream.feed(letter))
        self.assertEqual(stream.totals(), TOTALS)

    def test_cut_at_every_place(self):
        for k in range(len(TEXT) + 1):
            self.assertEqual(fed(sample_book(), TEXT[:k], TEXT[k:]).totals(), TOTALS)
            self.assertEqual(fed(sample_book(), TEXT[:k], "", "", TEXT[k:], "").totals(), TOTALS)

    def test_cut_amid_words(self):
        text = plain_text(("wood", "leaf"), (("tree", ("bud",), ("twig", ("bud",)), ("bud",)), ("bud",)))
        told = fed(wide_book(), text).totals()
        for step in (2, 3, 5, 7):
            pieces = [text[k:k + step] for k in range(0, len(text), step)]
            self.assertEqual(fed(wide_book(), *pieces).totals(), told)

    def test_a_word_that_goes_on_is_one_word(self):
        book = Book([("ab", "c", ()), ("a", "c", ()), ("b", "c", ())])
        self.assertEqual(fed(book, "plain (c) {a", "b;}").totals()[1], (1, 0, 0))
        self.assertEqual(fed(book, "plain (c, c) {a", ";", "b;}").totals()[1], (0, 1, 1))
        stream = fed(book, "plain (c) {a")
        self.assert_place(BadText, 13, stream.feed, " b")
        digits = Book([("a1", "c2", ())])
        self.assertEqual(fed(digits, "plain (c", "2", ") {a", "1", ";}").totals()[1], (1,))

    def test_no_joints(self):
        for book in (sample_book(), Book([])):
            many = len(book.words())
            self.assertEqual(fed(book, "plain () {}").totals(), ((), (0,) * many, (), 0))
        self.check_kinds(fed(sample_book(), "plain () {\n}\n").totals())

    def test_the_order_of_the_rows(self):
        book = Book([
            ("m", "c", ("c", "d")), ("k", "d", ("c",)), ("z", "c", ()), ("a", "d", ()), ("b", "c", ("c", "c", "c")),
        ])
        bushes = (
            ("a",),
            ("b", ("z",), ("m", ("z",), ("a",)), ("m", ("b", ("z",), ("z",), ("z",)), ("k", ("z",)))),
            ("m", ("m", ("z",), ("k", ("b", ("m", ("z",), ("a",)), ("z",), ("z",)))), ("a",)),
            ("k", ("z",)),
            ("z",),
        )
        roots = ("d", "c", "c", "d", "c")
        totals = fed(book, plain_text(roots, bushes)).totals()
        self.assertEqual(totals, (
            roots,
            stock_of(book, bushes),
            (
                (None, 0, "a", 1), (None, 1, "b", 1), (None, 2, "m", 1), (None, 3, "k", 1), (None, 4, "z", 1),
                ("m", 0, "m", 1), ("m", 0, "z", 3), ("m", 0, "b", 1), ("m", 1, "k", 2), ("m", 1, "a", 3),
                ("k", 0, "z", 2), ("k", 0, "b", 1),
                ("b", 0, "m", 1), ("b", 0, "z", 2), ("b", 1, "m", 1), ("b", 1, "z", 2), ("b", 2, "m", 1),
                ("b", 2, "z", 2),
            ),
            6,
        ))
        self.assertEqual(totals, oracles.totals_of(book, roots, bushes))

    def test_depth(self):
        for text, depth in (
            ("plain () {}", 0),
            ("plain (blue) {z;}", 1),
            ("plain (blue) {b(z);}", 2),
            ("plain (red) {a(z, b(b(z)));}", 4),
            ("plain (blue, red, blue) {b(z); a(b(z), z); z;}", 3),
        ):
            self.assertEqual(fed(sample_book(), text).totals()[3], depth)

    def test_more_than_nine_roots_and_branches(self):
        book = Book([("s", "c", ("c",) * 12), ("e", "c", ())])
        bush = ("s",) + (("e",),) * 11 + (("s",) + (("e",),) * 12,)
        totals = fed(book, plain_text(("c",) * 13, (bush,) * 13)).totals()
        self.assertEqual(totals, oracles.totals_of(book, ("c",) * 13, (bush,) * 13))
        self.assertEqual([row[1] for row in totals[2][:13]], list(range(13)))

    def test_random_texts(self):
        draw = random_source(11)
        for _ in range(80):
            roots = tuple(draw.choice(("wood", "leaf")) for _ in range(draw.randrange(5)))
            bushes = random_plain(draw, wide_book(), roots, 20)
            text = plain_text(roots, bushes)
            cuts = sorted(draw.randrange(len(text) + 1) for _ in range(draw.randrange(6)))
            pieces = [text[start:end] for start, end in zip([0] + cuts, cuts + [len(text)])]
            self.assertEqual(fed(wide_book(), *pieces).totals(), oracles.totals_of(wide_book(), roots, bushes))

    def test_equal_streams_tell_equal_totals_again(self):
        stream = fed(sample_book(), TEXT)
        self.assertEqual(stream.totals(), stream.totals())
        self.assertEqual(stream.totals(), fed(sample_book(), TEXT).totals())
        stream.feed(" \n ")
        self.assertEqual(stream.totals(), TOTALS)

    def test_two_streams_know_nothing_of_each_other(self):
        book = sample_book()
        one, other = PlainStream(book), PlainStream(book)
        one.feed("plain (blue) {z")
        other.feed(TEXT)
        one.feed(";}")
        self.assertEqual(one.totals(), (("blue",), (0, 0, 1), ((None, 0, "z", 1),), 1))
        self.assertEqual(other.totals(), TOTALS)

    def test_the_limits(self):
        deep = ("z",)
        for _ in range(75):
            deep = ("b", deep)
        self.assertEqual(fed(sample_book(), plain_text(["blue"], [deep])).totals()[3], 76)
        roots, bushes = ("red",) * 400, (("a", ("b", ("b", ("z",))), ("z",)),) * 400
        stream = PlainStream(sample_book())
        for letter in plain_text(roots, bushes):
            stream.feed(letter)
        totals = stream.totals()
        self.assertEqual(totals[1], (400, 800, 800))
        self.assertEqual(totals[2][400:], (
            ("a", 0, "b", 400), ("a", 1, "z", 400), ("b", 0, "b", 400), ("b", 0, "z", 400),
        ))
        self.assert_place(BadText, 13, fed(sample_book(), "plain (blue) ").feed, "9" * 40)


class TestRefusals(Case):
    def test_the_examples_of_the_document(self):
        self.assert_place(BadText, 0, PlainStream(sample_book()).feed, "x")
        self.assert_place(BadText, 0, PlainStream(sample_book()).feed, "plainx")
        self.assertIsNone(PlainStream(sample_book()).feed("pla"))

    def test_the_first_word(self):
        for k in range(6):
            self.assertIsNone(PlainStream(sample_book()).feed("plain"[:k]))
        for text, place in (
            ("px", 0), ("plaim", 0), ("plain1", 0), ("  q", 2), ("\n plans", 2), ("(", 0), ("1", 0), ("0", 0),
            ("pla ", 0), ("pla(", 0), ("pla\t", 0), ("plA", 0), ("P", 0), ("grove", 0), ("\t", 0), ("plain\t", 5),
            ("plain x", 6), ("plain {", 6), ("plain1", 0), ("plain 1", 6),
        ):
            with self.subTest(text=text):
                self.assert_place(BadText, place, PlainStream(sample_book()).feed, text)

    def test_the_thirteenth_character_of_a_word(self):
        for start in ("plain (", "plain (red, ", "plain (red) {", "plain (red) {a(", "plain (red) {a(b, "):
            for word, more in (("abcdefghijkl", "m"), ("abcdefghijk1", "2"), ("a23456789012", "3")):
                stream = fed(sample_book(), start, word)
                self.assert_place(BadText, len(start), stream.feed, more)
                self.assert_place(BadText, len(start), PlainStream(sample_book()).feed, start + word + more)
                stream = fed(sample_book(), start)
                for letter in word:
                    self.assertIsNone(stream.feed(letter))
                self.assert_place(BadText, len(start), stream.feed, more + " ")

    def test_what_may_not_follow(self):
        for start, wrong in (
            ("plain (", ["(", ",", ";", "{", "}", "1", "0", "\t", "A"]),
            ("plain (red ", ["(", ";", "{", "}", "1", "0", "blue", "b", "\t"]),
            ("plain (red,", ["(", ")", ",", ";", "{", "1"]),
            ("plain (red)", ["(", ")", ",", ";", "}", "1", "x"]),
            ("plain (red){", ["(", ")", ",", ";", "{", "1"]),
            ("plain (red){a ", [")", ",", "{", "}", "1", "x"]),
            ("plain (red){a(", ["(", ")", ",", ";", "{", "}", "2"]),
            ("plain (red){a(b ", [";", "{", "}", "2", "x"]),
            ("plain (red){a(b)", ["(", ")", ",", "{", "}", "2", "x"]),
            ("plain (red){a(b,", ["(", ")", ",", ";", "{", "}", "2"]),
            ("plain (red){a;", ["(", ")", ",", ";", "{", "2"]),
            ("plain (red){}", ["(", ")", ",", ";", "{", "}", "2", "x", "plain", "\t"]),
        ):
            for more in wrong:
                stream = fed(sample_book(), start)
                with self.subTest(start=start, more=more):
                    self.assert_place(BadText, len(start), stream.feed, more)

    def test_as_soon_as_it_is_sure_and_not_sooner(self):
        draw = random_source(12)
        signs = ["(", ")", "{", "}", ",", ";", " ", "\n", "a", "z", "0", "7", "b(z)", "\t", "plain", "A", "z;"]
        texts = [TEXT, plain_text(("red", "blue"), (("a", ("z",), ("z",)), ("b", ("z",)))), "plain () {\n}\n"]
        refused = 0
        for _ in range(800):
            text = draw.choice(texts)
            for _ in range(draw.randrange(1, 3)):
                k = draw.randrange(len(text) + 1)
                text = text[:k] + draw.choice(signs + [""]) + text[k + draw.randrange(3):]
            refused += self.check_letters(text)
        self.assertGreater(refused, 400)

    def check_letters(self, text):
        """Feed a text letter by letter; compare with the first wrong places of what may follow the letters so far."""
        stream = PlainStream(sample_book())
        for k in range(1, len(text) + 1):
            place = self.sure_place(text[:k])
            if place is not None:
                self.assert_place(BadText, place, stream.feed, text[k - 1])
                self.assert_place(BadText, place, stream.feed, "")
                self.assert_place(BadText, place, stream.totals)
                self.assert_place(BadText, place, PlainStream(sample_book()).feed, text[:k])
                self.assert_place(BadText, place, PlainStream(sample_book()).feed, text)
                return True
            self.assertIsNone(stream.feed(text[k - 1]))
            place = oracles.first_wrong_place("plain", text[:k])
            if place is None:
                self.check_totals(stream, text[:k])
            else:
                self.assert_place(BadText, place, stream.totals)
        return False

    def sure_place(self, start):
        """The first wrong place of all texts that begin so, or None if there is none for some of them."""
        places = {oracles.first_wrong_place("plain", start + more) for more in self.goings_on()}
        whole = oracles.first_wrong_place("plain", start)
        # If the place is the length of the text, something right may follow; the goings-on tell other places then.
        return whole if places == {whole} and whole < len(start) else None

    def goings_on(self):
        ends = ["plain"[k:] for k in range(6)]
        return [""] + ends + [" ", "(", ")", ",", ";", "{", "}", "a", "0"]

    def check_totals(self, stream, text):
        try:
            told = read_plain(sample_book(), text)
        except BadGrove as error:
            self.assert_path(BadGrove, error.path, stream.totals)
        else:
            self.assertEqual(stream.totals(), oracles.totals_of(sample_book(), *told))

    def test_each_later_call_raises_the_same_again(self):
        stream = fed(sample_book(), "plain (")
        self.assert_place(BadText, 7, stream.feed, "; ) {\t")
        for piece in ("", " ", "red) {}", "\t", "abcdefghijklm", TEXT):
            self.assert_place(BadText, 7, stream.feed, piece)
            self.assert_place(BadText, 7, stream.totals)

    def test_a_refusal_behind_a_right_text(self):
        stream = fed(sample_book(), TEXT)
        self.assert_place(BadText, len(TEXT) + 1, stream.feed, " x")
        self.assert_place(BadText, len(TEXT) + 1, stream.totals)
        self.assert_place(BadText, len(TEXT) + 1, stream.feed, "\n")

    def test_places_count_from_the_beginning(self):
        stream = fed(sample_book(), "\n\nplain", "  (", "re", "d) ", "{a (\n", " z, ")
        self.assert_place(BadText, 25, stream.feed, "\n;")

    def test_a_word_ends_where_a_character_begins_no_lexeme(self):
        stream = fed(sample_book(), "plain (re")
        self.assert_place(BadText, 10, stream.feed, "dX")
        stream = fed(sample_book(), "plain (re")
        self.assert_place(BadText, 9, stream.feed, "\t")


class TestTotalsAmid(Case):
    def test_totals_as_if_the_text_ended_here(self):
        for k in range(len(TEXT)):
            stream = fed(sample_book(), TEXT[:k])
            place = oracles.first_wrong_place("plain", TEXT[:k])
            if place is None:
                self.assertEqual(stream.totals(), TOTALS)
            else:
                self.assert_place(BadText, place, stream.totals)

    def test_totals_change_nothing(self):
        stream = PlainStream(sample_book())
        for k, letter in enumerate(TEXT):
            for _ in range(2):
                place = oracles.first_wrong_place("plain", TEXT[:k])
                if place is not None:
                    self.assert_place(BadText, place, stream.totals)
            stream.feed(letter)
        self.assertEqual(stream.totals(), TOTALS)

    def test_an_unfinished_word(self):
        stream = fed(sample_book(), " pla")
        self.assert_place(BadText, 1, stream.totals)
        stream.feed("in")
        self.assert_place(BadText, 6, stream.totals)
        stream.feed("(bl")
        self.assert_place(BadText, 9, stream.totals)
        stream.feed("ue){z")
        self.assert_place(BadText, 14, stream.totals)
        stream.feed(";")
        self.assert_place(BadText, 15, stream.totals)
        stream.feed("}")
        self.assertEqual(stream.totals(), (("blue",), (0, 0, 1), ((None, 0, "z", 1),), 1))

    def test_nothing_yet(self):
        self.assert_place(BadText, 0, PlainStream(sample_book()).totals)
        self.assert_place(BadText, 0, fed(sample_book(), "").totals)
        self.assert_place(BadText, 3, fed(sample_book(), " \n ").totals)


class TestWrongTellings(Case):
    def test_paths(self):
        for text, path in (
            ("plain (red) {}", (1,)),
            ("plain () {z;}", (1,)),
            ("plain () {nothing;}", (1,)),
            ("plain (blue) {z; z;}", (1,)),
            ("plain (red) {p;}", (1, 0, 0)),
            ("plain (green) {z;}", (1, 0, 0)),
            ("plain (blue) {a(z, z);}", (1, 0, 0)),
            ("plain (red) {a;}", (1, 0)),
            ("plain (red) {a(z);}", (1, 0)),
            ("plain (red) {a(z, z, z);}", (1, 0)),
            ("plain (red) {a(b, q);}", (1, 0, 1)),
            ("plain (red) {a(z, a(z, z));}", (1, 0, 2, 0)),
            ("plain (red) {a(z, z(z));}", (1, 0, 2)),
            ("plain (blue, red) {b(z); a(z, z(z));}", (1, 1, 2)),
        ):
            stream = fed(sample_book(), text)
            with self.subTest(text=text):
                self.assert_path(BadGrove, path, stream.totals)
                self.assert_path(BadGrove, path, stream.totals)

    def test_a_later_character_makes_an_earlier_part_wrong(self):
        for text, path in (
            ("plain (red) {q; z;}", (1,)),
            ("plain (red) {a(q, z, z);}", (1, 0)),
            ("plain (red) {a(b(q, z), z);}", (1, 0, 1)),
            ("plain (red) {a(b(q(z)), z, z);}", (1, 0)),
            ("plain (red) {q(q, z, z);}", (1, 0, 0)),
            ("plain (red) {a(q(z, z), b);}", (1, 0, 1, 0)),
            ("plain (blue, red) {q; a(z, z, z);}", (1, 0, 0)),
            ("plain (blue, red) {b(q, q); a(z, z, z);}", (1, 0)),
            ("plain (red, blue) {a(b(b), q); q;}", (1, 0, 1, 1)),
        ):
            with self.subTest(text=text):
                self.assert_path(BadGrove, path, read_plain, sample_book(), text)
                self.assert_path(BadGrove, path, fed(sample_book(), text).totals)

    def test_a_stream_goes_on_behind_such_totals(self):
        stream = fed(sample_book(), "plain (red) {p;}")
        self.assert_path(BadGrove, (1, 0, 0), stream.totals)
        self.assertIsNone(stream.feed(" \n"))
        self.assert_path(BadGrove, (1, 0, 0), stream.totals)
        self.assert_place(BadText, 18, stream.feed, "}")
        self.assert_place(BadText, 18, stream.totals)

    def test_feed_refuses_no_telling(self):
        stream = PlainStream(sample_book())
        for piece in ("plain (green, green) {", "nothing(", "root, hang(x)", "); q; q; q;"):
            self.assertIsNone(stream.feed(piece))
        self.assert_place(BadText, 54, stream.totals)
        self.assertIsNone(stream.feed("}"))
        self.assert_path(BadGrove, (1,), stream.totals)

    def test_like_read_plain(self):
        draw = random_source(13)
        words = ["a", "b", "z", "z", "z", "q"]
        wrong = 0
        for _ in range(1200):
            bushes = tuple(self.any_bush(draw, words, 3) for _ in range(draw.randrange(4)))
            roots = [draw.choice(("red", "blue", "blue")) for _ in range(draw.choice((len(bushes), len(bushes), 1)))]
            text = plain_text(roots, bushes)
            path = oracles.first_grove_path(oracles.kinds_of_book(sample_book()), roots, bushes, False)
            stream = fed(sample_book(), text)
            if path is None:
                self.assertEqual(stream.totals(), oracles.totals_of(sample_book(), roots, bushes))
            else:
                wrong += 1
                self.assert_path(BadGrove, path, stream.totals)
                self.assert_path(BadGrove, path, read_plain, sample_book(), text)
        self.assertGreater(wrong, 300)
        self.assertLess(wrong, 1100)

    def any_bush(self, draw, words, depth):
        word = draw.choice(words)
        many = {"a": 2, "b": 1}.get(word, 0)
        if draw.random() < 0.1:
            many = draw.randrange(4)
        if depth == 0:
            many = 0
        return (word,) + tuple(self.any_bush(draw, words, depth - 1) for _ in range(many))


if __name__ == "__main__":
    unittest.main()
