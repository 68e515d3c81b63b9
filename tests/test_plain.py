"""Plain groves."""

import unittest

from bushcoins.bags import Bag
from bushcoins.books import Book
from bushcoins.errors import BadGrove
from bushcoins.groves import Grove
from bushcoins.plain import check_plain, named, plain_of, stock_of
from tests import oracles
from tests.samples import (
    JOINTS, ROOTS, WIDE_ROOTS, Case, anything, nested, random_plain, random_source, sample_bag, sample_book,
    sample_grove, wide_book, wide_grove,
)

Z = ("z",)
PLAIN = (("a", ("b", ("b", Z)), Z),)
WIDE_PLAIN = (
    ("tree", ("bud",), ("tree", ("bud",), ("twig", ("bud",)), ("bud",)), ("bud",)),
    ("bud",),
    ("knob",),
    ("knob",),
)

WRONG = [
    # roots
    (None, PLAIN, (0,)),
    ("red", PLAIN, (0,)),
    ({"red": 0}, PLAIN, (0,)),
    (True, PLAIN, (0,)),
    (["Red"], PLAIN, (0, 0)),
    ([("red",)], PLAIN, (0, 0)),
    (("red", "blue", 5), PLAIN, (0, 2)),
    # bushes
    (ROOTS, None, (1,)),
    (ROOTS, "a", (1,)),
    (ROOTS, {0: PLAIN[0]}, (1,)),
    (ROOTS, (), (1,)),
    (ROOTS, PLAIN + PLAIN, (1,)),
    ((), PLAIN, (1,)),
    # a bush of its own
    (ROOTS, [None], (1, 0)),
    (ROOTS, ["a"], (1, 0)),
    (ROOTS, [()], (1, 0)),
    (ROOTS, [["a", Z, Z]], (1, 0)),
    (ROOTS, [("a", ["z"], Z)], (1, 0, 1)),
    (ROOTS, [("a", Z, "z")], (1, 0, 2)),
    (ROOTS, [("a", ("b", ()), Z)], (1, 0, 1, 1)),
    # the first member
    (ROOTS, [(None, Z, Z)], (1, 0, 0)),
    (ROOTS, [(["a"], Z, Z)], (1, 0, 0)),
    (ROOTS, [("p", Z, Z)], (1, 0, 0)),
    (ROOTS, [("red",)], (1, 0, 0)),
    (ROOTS, [("A", Z, Z)], (1, 0, 0)),
    (ROOTS, [("b", Z)], (1, 0, 0)),
    (("blue",), PLAIN, (1, 0, 0)),
    (ROOTS, [("a", ("a", Z, Z), Z)], (1, 0, 1, 0)),
    (("red", "red"), [PLAIN[0], Z], (1, 1, 0)),
    # the number of members
    (ROOTS, [("a",)], (1, 0)),
    (ROOTS, [("a", Z)], (1, 0)),
    (ROOTS, [("a", Z, Z, Z)], (1, 0)),
    (ROOTS, [("a", ("b",), Z)], (1, 0, 1)),
    (ROOTS, [("a", Z, ("z", Z))], (1, 0, 2)),
    # two wrong parts at once: the first one in order
    (["Red"], None, (0, 0)),
    (None, [()], (0,)),
    (("red", "red"), [()], (1,)),
    (ROOTS, [("a", (), ())], (1, 0, 1)),
    (ROOTS, [("a", ("c",))], (1, 0)),
    (ROOTS, [("c", (), ())], (1, 0, 0)),
    (ROOTS, [("a", ("b", ("b",)), None)], (1, 0, 1, 1)),
    (("red", "red"), [("a", Z, ("b", None)), None], (1, 0, 2, 1)),
]


class TestCheckPlain(Case):
    def test_the_first_wrong_part(self):
        for roots, bushes, path in WRONG:
            with self.subTest(roots=roots, bushes=bushes):
                self.assert_path(BadGrove, path, check_plain, sample_book(), roots, bushes)

    def test_lists_and_tuples_count_alike(self):
        for roots, bushes, path in WRONG:
            for kind in (list, tuple):
                if isinstance(roots, (list, tuple)) and isinstance(bushes, (list, tuple)):
                    self.assert_path(BadGrove, path, check_plain, sample_book(), kind(roots), kind(bushes))

    def test_right_ones(self):
        for kind in (list, tuple):
            self.assertIsNone(check_plain(sample_book(), kind(ROOTS), kind(PLAIN)))
            self.assertIsNone(check_plain(wide_book(), kind(WIDE_ROOTS), kind(WIDE_PLAIN)))
            self.assertIsNone(check_plain(sample_book(), kind(()), kind(())))
            self.assertIsNone(check_plain(Book([]), kind(()), kind(())))

    def test_words_may_stand_again_and_none_need_stand(self):
        self.assertIsNone(check_plain(sample_book(), ("blue", "blue", "blue"), [Z, Z, Z]))
        self.assertIsNone(check_plain(sample_book(), ("red", "red"), PLAIN + PLAIN))
        self.assertIsNone(check_plain(sample_book(), ("blue",), [("b", ("b", ("b", Z)))]))

    def test_anything(self):
        for value in anything():
            if not isinstance(value, (list, tuple)):
                self.assert_path(BadGrove, (0,), check_plain, sample_book(), value, PLAIN)
            self.assert_path(BadGrove, (0, 0), check_plain, sample_book(), [value], PLAIN)
            if not isinstance(value, (list, tuple)) or len(value) != 1:
                self.assert_path(BadGrove, (1,), check_plain, sample_book(), ROOTS, value)
            if not isinstance(value, tuple) or value == ():
                self.assert_path(BadGrove, (1, 0), check_plain, sample_book(), ROOTS, [value])
                self.assert_path(BadGrove, (1, 0, 2), check_plain, sample_book(), ROOTS, [("a", Z, value)])
            self.assert_path(BadGrove, (1, 0, 0), check_plain, sample_book(), ROOTS, [(value, Z, Z)])
        for kind in ("list", "tuple", "dict"):
            self.assertRaises(BadGrove, check_plain, sample_book(), ROOTS, [nested(75, kind)])

    def test_against_the_words_of_the_document(self):
        draw = random_source(3)
        book = wide_book()
        kinds = oracles.kinds_of_book(book)
        right = 0
        for _ in range(500):
            roots = [draw.choice(("wood", "leaf")) for _ in range(draw.randrange(1, 4))]
            bushes = self.spoilt(draw, random_plain(draw, book, roots, 8))
            path = oracles.first_grove_path(kinds, roots, bushes, False)
            if path is None:
                right += 1
                self.assertIsNone(check_plain(book, roots, bushes))
            else:
                self.assert_path(BadGrove, path, check_plain, book, roots, bushes)
        self.assertGreater(right, 5)

    def spoilt(self, draw, part):
        if type(part) is tuple and part and draw.random() < 0.8:
            k = draw.randrange(len(part))
            return part[:k] + (self.spoilt(draw, part[k]),) + part[k + 1:]
        return draw.choice([("bud",), ("knob",), "bud", "twig", "tree", "nothing", None, (), [("bud",)]])


class TestPlainOf(Case):
    def test_the_words_in_the_place_of_the_names(self):
        self.assertEqual(plain_of(sample_grove()), PLAIN)
        self.assertEqual(plain_of(wide_grove()), WIDE_PLAIN)

    def test_tuples_are_returned(self):
        def look_at(value):
            self.assertIs(type(value), tuple)
            for part in value:
                if type(part) is not str:
                    look_at(part)

        look_at(plain_of(wide_grove()))
        self.assertEqual(plain_of(Grove(Bag(sample_book(), []), (), ())), ())

    def test_names_that_are_words_of_other_shapes(self):
        bag = Bag(sample_book(), [("a", "z"), ("z", "a"), ("b", "z")])
        self.assertEqual(plain_of(Grove(bag, ["red"], [("z", ("a",), ("b",))])), (("a", ("z",), ("z",)),))


class TestStockOf(Case):
    def test_stocks(self):
        self.assertEqual(stock_of(sample_book(), PLAIN), (1, 2, 2))
        self.assertEqual(stock_of(wide_book(), WIDE_PLAIN), (2, 1, 6, 2))
        self.assertEqual(stock_of(wide_book(), list(WIDE_PLAIN)), (2, 1, 6, 2))
        self.assertIs(type(stock_of(sample_book(), PLAIN)), tuple)

    def test_shapes_that_no_joint_has(self):
        self.assertEqual(stock_of(sample_book(), ()), (0, 0, 0))
        self.assertEqual(stock_of(sample_book(), [Z]), (0, 0, 1))
        self.assertEqual(stock_of(Book([]), []), ())
        book = Book([("y", "c", ()), ("x", "c", ("c",)), ("w", "c", ())])
        self.assertEqual(stock_of(book, [("x", ("x", ("w",)))]), (0, 2, 1))

    def test_it_is_that_of_the_bag(self):
        self.assertEqual(stock_of(sample_book(), plain_of(sample_grove())), sample_bag().stock())


class TestNamed(Case):
    def test_names_in_the_order_of_a_walk(self):
        grove = named(sample_book(), ROOTS, PLAIN)
        self.assertEqual(grove.bushes(), [("j1", ("j2", ("j3", ("j4",))), ("j5",))])
        self.assertEqual(
            grove.bag().joints(), [("j1", "a"), ("j2", "b"), ("j3", "b"), ("j4", "z"), ("j5", "z")]
        )
        self.assertEqual(grove.bag().book(), sample_book())
        self.assertEqual(grove.roots(), ROOTS)

    def test_several_roots(self):
        for kind in (list, tuple):
            grove = named(wide_book(), kind(WIDE_ROOTS), kind(WIDE_PLAIN))
            self.assertEqual(grove.walk(), [f"j{k}" for k in range(1, 12)])
            self.assertEqual(grove.bag().names(), grove.walk())
            self.assertEqual(grove.roots(), WIDE_ROOTS)
            self.assertEqual(plain_of(grove), WIDE_PLAIN)
            self.assertEqual(grove.bushes()[2:], [("j10",), ("j11",)])

    def test_no_joints(self):
        grove = named(sample_book(), [], [])
        self.assertEqual((grove.bushes(), grove.roots(), grove.bag().joints()), ([], (), []))

    def test_there_and_back(self):
        draw = random_source(4)
        book = wide_book()
        for _ in range(60):
            roots = [draw.choice(("wood", "leaf")) for _ in range(draw.randrange(4))]
            bushes = random_plain(draw, book, roots, 15)
            grove = named(book, roots, bushes)
            self.assertEqual(plain_of(grove), bushes)
            self.assertEqual(grove, named(book, roots, plain_of(grove)))
            self.assertEqual(stock_of(book, bushes), grove.bag().stock())

    def test_nothing_passed_is_modified(self):
        roots, bushes = list(WIDE_ROOTS), list(WIDE_PLAIN)
        check_plain(wide_book(), roots, bushes)
        stock_of(wide_book(), bushes)
        grove = named(wide_book(), roots, bushes)
        self.assertEqual((roots, bushes), (list(WIDE_ROOTS), list(WIDE_PLAIN)))
        roots.append("x")
        bushes.append("x")
        self.assertEqual(grove, named(wide_book(), WIDE_ROOTS, WIDE_PLAIN))
        self.assertEqual(len(JOINTS), 5)

    def test_sixty_joints_one_beneath_the_other(self):
        for many in (60, 90):
            bush = Z
            for _ in range(many - 1):
                bush = ("b", bush)
            self.assertIsNone(check_plain(sample_book(), ["blue"], [bush]))
            grove = named(sample_book(), ["blue"], [bush])
            self.assertEqual(grove.walk(), [f"j{k + 1}" for k in range(many)])
            self.assertEqual(plain_of(grove), (bush,))
            self.assertEqual(stock_of(sample_book(), [bush]), (0, many - 1, 1))

    def test_a_thousand_joints(self):
        bushes = [("a", ("b", Z), Z)] * 500
        grove = named(sample_book(), ["red"] * 500, bushes)
        self.assertEqual(grove.bag().names()[-1], "j2000")
        self.assertEqual(plain_of(grove), tuple(bushes))


if __name__ == "__main__":
    unittest.main()
