"""bushcoins.patterns: S9.1 and S9.2."""

import itertools
import unittest

from bushcoins.books import Book
from bushcoins.counting import count_plain
from bushcoins.errors import BadPattern, Overlaps
from bushcoins.patterns import (
    average, marked, open_colours, overlaps, pattern_stock, shown, shown_in_some, standing,
)
from bushcoins.plain import check_plain, stock_of
from bushcoins.stocks import paths
from tests.every import NO_KINDS, PLAIN_KINDS, every_plain, mean
from tests.lands import MIXED_BOOK, PLAIN_BOOK
from tests.samples import Case, anything, nested, random_source, sample_book, wide_book

PLAIN = Book(PLAIN_BOOK)
MIXED = Book(MIXED_BOOK)


def all_patterns(book, colour, joints):
    """All patterns with so many joints at most, whose stem has the colour, or any if there is none."""
    found = []
    for word, stem, branches in book.shapes():
        if colour in (None, stem) and joints:
            parts = [[None] + all_patterns(book, branch, joints - 1) for branch in branches]
            found += [(word,) + chosen for chosen in itertools.product(*parts)]
    return [pattern for pattern in found if size(pattern) <= joints]


def size(pattern):
    return 0 if pattern is None else 1 + sum(size(part) for part in pattern[1:])


def joints_of(pattern, path=()):
    """The dict of the paths of the joints of a pattern, from its first joint on, to their words."""
    found = {path: pattern[0]}
    for j, part in enumerate(pattern[1:]):
        if part is not None:
            found.update(joints_of(part, path + (j,)))
    return found


def grove_joints(grove):
    """The dict of the paths of the joints of a plain grove to their words."""
    found = {}
    for n, bush in enumerate(grove):
        found.update(joints_of(bush, (n,)))
    return found


def stands_at(grove, pattern):
    """The paths at which a pattern stands, by looking for each of its joints."""
    words = grove_joints(grove)
    needed = joints_of(pattern)
    return [
        path for path in words
        if all(words.get(path + below) == word for below, word in needed.items())
    ]


def markings(grove, pattern, marks):
    """The number of the sets of so many joints at which a pattern stands without a common joint."""
    sets = [{path + below for below in joints_of(pattern)} for path in stands_at(grove, pattern)]
    return len([
        1 for chosen in itertools.combinations(sets, marks)
        if len(set().union(*chosen)) == sum(len(each) for each in chosen)
    ])


def overlaps_itself(pattern):
    """By the words of S9.1, over paths."""
    words = joints_of(pattern)
    for path in words:
        if path and words[path] == words[()]:
            below = {other[len(path):]: word for other, word in words.items() if other[:len(path)] == path}
            if all(words[other] == word for other, word in below.items() if other in words):
                return True
    return False


def patterns_of(book, joints=3):
    return all_patterns(book, None, joints)


class TestBadPatterns(Case):
    def calls(self, book, pattern):
        return [
            lambda: pattern_stock(book, pattern), lambda: open_colours(book, pattern), lambda: overlaps(book, pattern),
            lambda: standing(book, (), pattern), lambda: marked(book, (), (0,) * len(book.words()), pattern, 0),
            lambda: marked(book, (), (0,) * len(book.words()), pattern, 2),
            lambda: shown_in_some(book, (), (0,) * len(book.words()), pattern),
            lambda: average(book, (), (0,) * len(book.words()), pattern),
            lambda: shown(book, (), (0,) * len(book.words()), pattern),
        ]

    def check(self, pattern, path, book=None):
        for call in self.calls(book or sample_book(), pattern):
            self.assert_path(BadPattern, path, call)

    def test_values_of_every_kind(self):
        for value in anything() + [nested(70, "tuple"), nested(70, "list"), nested(70, "dict")]:
            self.check(value, (), wide_book())
        for value in anything():
            if value is not None:
                self.check(("a", value, None), (0,))
                self.check(("a", None, value), (1,))
                self.check(("a", ("b", value), None), (0, 0))
            self.check((value, None), ())
            self.check((value,), ())
            self.check(("a", ("b", None), (value, None)), (1,))

    def test_each_kind_of_wrong_part(self):
        self.check(None, ())
        self.check((), ())
        self.check(["a", None, None], ())
        self.check("a", ())
        self.check(("x", None), ())
        self.check(("a",), ())
        self.check(("a", None), ())
        self.check(("a", None, None, None), ())
        self.check(("z", None), ())
        self.check(("b",), ())
        # A part in a branch of another colour.
        self.check(("a", ("a", None, None), None), (0,))
        self.check(("a", None, ("a", None, None)), (1,))
        self.check(("b", ("a", None, None)), (0,))
        self.check(("a", ("b", ["z"]), None), (0, 0))
        self.check(("a", ("b", ("b", ("z", None))), None), (0, 0, 0))
        self.check(("a", ("b", ("b", ())), None), (0, 0, 0))
        self.check(("a", None, ("b", ("b", (("z",),)))), (1, 0, 0))

    def test_two_at_once(self):
        # A part comes before its own parts, and these one after the other, each with all that is in it.
        self.check(("a", 7, 7), (0,))
        self.check(("a", None, 7), (1,))
        self.check(("a", ("b", 7), 7), (0, 0))
        self.check(("a", ("b", ("b", 7)), 7), (0, 0, 0))
        self.check(("a", 7), ())
        self.check(("a", ("b", 7, 7), None), (0,))
        self.check(("a", ("a", 7, None), 7), (0,))
        self.check(("x", 7, 7), ())
        self.check(("a", ("z",), ("b", ("z", 7))), (1, 0))

    def test_random_spoilt_patterns(self):
        draw = random_source(261)
        for book in (PLAIN, MIXED, wide_book()):
            for pattern in draw.sample(patterns_of(book, 4), 12):
                for path in joints_of(pattern):
                    for value in ([], "z", 7, (), ("nobody",), (pattern[0],) * 9):
                        self.check(self.replaced(pattern, path, value), path, book)

    def replaced(self, pattern, path, value):
        if not path:
            return value
        j = path[0] + 1
        return pattern[:j] + (self.replaced(pattern[j], path[1:], value),) + pattern[j + 1:]


class TestPatterns(Case):
    def test_stocks_and_open_colours(self):
        pattern = ("a", None, ("b", None))
        self.assertEqual(pattern_stock(sample_book(), pattern), (1, 1, 0))
        self.assertEqual(open_colours(sample_book(), pattern), ("blue", "blue"))
        self.assertEqual(open_colours(sample_book(), ("z",)), ())
        self.assertEqual(pattern_stock(sample_book(), ("z",)), (0, 0, 1))
        # Each comes where its bush would come.
        pattern = ("tree", None, ("tree", ("bud",), None, None), None)
        self.assertEqual(open_colours(wide_book(), pattern), ("leaf", "wood", "leaf", "leaf"))
        self.assertEqual(open_colours(wide_book(), ("tree", None, None, None)), ("leaf", "wood", "leaf"))
        self.assertEqual(pattern_stock(wide_book(), pattern), (2, 0, 1, 0))
        for told in (pattern_stock(wide_book(), pattern), open_colours(wide_book(), pattern)):
            self.assertIs(type(told), tuple)

    def open_of(self, book, pattern):
        """The colours of the open places by recursion."""
        found = ()
        for part, colour in zip(pattern[1:], book.branches(pattern[0])):
            found += (colour,) if part is None else self.open_of(book, part)
        return found

    def test_all_small_patterns(self):
        met = set()
        for book in (sample_book(), PLAIN, MIXED, wide_book()):
            for pattern in patterns_of(book, 4):
                words = list(joints_of(pattern).values())
                self.assertEqual(pattern_stock(book, pattern), tuple(words.count(word) for word in book.words()))
                self.assertEqual(open_colours(book, pattern), self.open_of(book, pattern))
                self.assertIs(overlaps(book, pattern), overlaps_itself(pattern))
                met.add((words.count(words[0]) > 1, overlaps_itself(pattern)))
        self.assertEqual(met, {(False, False), (True, False), (True, True)})

    def test_overlaps(self):
        for pattern, right in (
            (("t", None, None), False), (("z",), False),
            (("t", ("t", None, None), None), True), (("b", ("b", None)), True), (("b", ("b", ("b", None))), True),
            (("b", ("b", ("z",))), False), (("b", ("t", ("b", None), None)), True),
            # By parts that only partly meet.
            (("t", ("t", None, ("z",)), None), True), (("t", ("t", ("z",), None), None), False),
            (("t", ("t", None, ("z",)), ("b", None)), False), (("t", ("t", None, ("z",)), ("z",)), True),
            (("t", ("z",), ("t", None, None)), True), (("t", ("z",), ("t", ("b", None), None)), False),
            (("t", ("z",), ("t", ("z",), ("z",))), False), (("t", ("b", None), ("b", ("t", None, None))), True),
            (("t", ("t", ("b", None), None), None), False),
        ):
            self.assertIs(overlaps(PLAIN, pattern), right, pattern)

    def test_standing(self):
        draw = random_source(262)
        met = 0
        for book, stock, roots in PLAIN_KINDS:
            groves = every_plain(book, stock, roots)
            for grove in groves[::4]:
                for pattern in draw.sample(patterns_of(book), min(12, len(patterns_of(book)))):
                    right = [path for path in paths(grove) if path in stands_at(grove, pattern)]
                    self.assertEqual(standing(book, grove, pattern), right)
                    self.assertEqual(standing(book, list(grove), pattern), right)
                    met += len(right) > 1
        self.assertGreater(met, 20)

    def test_standing_by_hand(self):
        grove = (("a", ("b", ("b", ("z",))), ("z",)),)
        self.assertEqual(standing(sample_book(), grove, ("b", None)), [(0, 0), (0, 0, 0)])
        self.assertEqual(standing(sample_book(), grove, ("b", ("b", None))), [(0, 0)])
        self.assertEqual(standing(sample_book(), grove, ("b", ("z",))), [(0, 0, 0)])
        self.assertEqual(standing(sample_book(), grove, ("a", ("b", None), ("b", None))), [])
        self.assertEqual(standing(sample_book(), grove, ("a", ("b", None), ("z",))), [(0,)])
        self.assertEqual(standing(sample_book(), (), ("z",)), [])
        self.assert_new(lambda: standing(sample_book(), grove, ("b", None)))
        for path in standing(sample_book(), grove, ("b", None)):
            self.assertIs(type(path), tuple)


class TestMarked(Case):
    def test_against_all_plain_groves(self):
        draw = random_source(263)
        met = set()
        for book, stock, roots in PLAIN_KINDS + NO_KINDS:
            groves = every_plain(book, stock, roots)
            patterns = patterns_of(book)
            for pattern in draw.sample(patterns, min(14, len(patterns))):
                for marks in range(4):
                    right = sum(markings(grove, pattern, marks) for grove in groves)
                    told = marked(book, roots, stock, pattern, marks)
                    self.assertIs(type(told), int)
                    self.assertEqual(told, right)
                    met.add((marks, min(right, 2)))
                right = mean([len(stands_at(grove, pattern)) for grove in groves])
                told = average(book, roots, stock, pattern)
                self.assertEqual(told, right)
                if told is not None:
                    self.assertEqual([type(told)] + [type(number) for number in told], [tuple, int, int])
                self.check_some(book, roots, stock, pattern, groves)
                self.check_shown(book, roots, stock, pattern, groves)
        self.assertTrue({(0, 0), (0, 2), (1, 0), (1, 2), (2, 2), (3, 2)} <= met, met)

    def check_some(self, book, roots, stock, pattern, groves):
        told = shown_in_some(book, roots, stock, pattern)
        if not [grove for grove in groves if stands_at(grove, pattern)]:
            self.assertIsNone(told)
            return
        self.assertIs(type(told), tuple)
        check_plain(book, roots, told)
        self.assertEqual(stock_of(book, told), stock)
        self.assertTrue(stands_at(told, pattern))
        self.assertEqual(shown_in_some(book, list(roots), stock, pattern), told)

    def check_shown(self, book, roots, stock, pattern, groves):
        if overlaps_itself(pattern):
            with self.assertRaises(Overlaps) as caught:
                shown(book, roots, stock, pattern)
            self.assertIs(type(caught.exception), Overlaps)
            return
        times = [len(stands_at(grove, pattern)) for grove in groves]
        right = [times.count(j) for j in range(max(times) + 1)] if times else []
        self.assertEqual(shown(book, roots, stock, pattern), right)
        self.assertEqual(shown(book, list(roots), stock, pattern), right)

    def test_overlapping_patterns(self):
        """Marks without a common joint are fewer than joints at which the pattern stands."""
        stock, roots = (0, 4, 1), ("c",)
        pattern = ("b", ("b", None))
        self.assertEqual([marked(PLAIN, roots, stock, pattern, marks) for marks in range(4)], [1, 3, 1, 0])
        self.assertEqual(average(PLAIN, roots, stock, pattern), (3, 1))
        self.assertEqual(shown_in_some(PLAIN, roots, stock, pattern), (("b", ("b", ("b", ("b", ("z",))))),))
        # Overlaps() is raised with and without groves, and also where the stock is too small.
        for stock in ((0, 4, 1), (0, 4, 2), (0, 0, 1), (0, 0, 0), (0, 1, 1)):
            with self.assertRaises(Overlaps):
                shown(PLAIN, roots, stock, pattern)

    def test_shown_by_hand(self):
        self.assertEqual(shown(sample_book(), ("red",), (1, 2, 2), ("b", ("z",))), [0, 2, 1])
        self.assertEqual(shown(sample_book(), ("red",), (1, 2, 2), ("b", ("b", ("z",)))), [1, 2])
        self.assertEqual(shown(sample_book(), ("red",), (1, 2, 2), ("a", None, None)), [0, 3])
        # No groves at all.
        self.assertEqual(shown(sample_book(), ("red",), (1, 2, 1), ("b", ("z",))), [])
        self.assertEqual(shown(sample_book(), (), (1, 2, 2), ("z",)), [])
        # A stock that is too small shows it nowhere.
        self.assertEqual(shown(sample_book(), ("blue",), (0, 0, 1), ("b", ("z",))), [1])
        self.assertEqual(shown(sample_book(), (), (0, 0, 0), ("z",)), [1])
        self.assert_new(lambda: shown(sample_book(), ("red",), (1, 2, 2), ("b", ("z",))))
        self.assert_new(lambda: shown(sample_book(), (), (1, 2, 2), ("z",)))
        for number in shown(sample_book(), ("red",), (1, 2, 2), ("b", ("z",))):
            self.assertIs(type(number), int)

    def test_stocks_that_are_too_small(self):
        self.assertEqual(marked(sample_book(), ("blue",), (0, 0, 1), ("b", ("z",)), 1), 0)
        self.assertEqual(marked(sample_book(), ("blue",), (0, 0, 1), ("b", ("z",)), 0), 1)
        self.assertEqual(marked(sample_book(), ("blue",), (0, 1, 1), ("b", ("z",)), 10 ** 39), 0)
        self.assertEqual(marked(sample_book(), (), (0, 0, 0), ("z",), 0), 1)
        self.assertIsNone(shown_in_some(sample_book(), ("blue",), (0, 0, 1), ("b", ("z",))))
        self.assertEqual(average(sample_book(), ("blue",), (0, 0, 1), ("b", ("z",))), (0, 1))
        self.assertIsNone(average(sample_book(), ("red",), (0, 0, 1), ("b", ("z",))))
        # Enough joints, but no grove shows it.
        self.assertIsNone(shown_in_some(sample_book(), ("red",), (1, 0, 2), ("b", None)))
        self.assertIsNone(shown_in_some(sample_book(), ("red", "red"), (2, 1, 4), ("a", ("b", ("b", None)), None)))

    def test_twenty_four_joints(self):
        stock, roots = (7, 5, 8), ("c",)
        whole = count_plain(PLAIN, stock, roots)
        self.assertGreater(whole, 10 ** 6)
        for pattern in (("t", ("b", None), ("z",)), ("b", ("t", None, None)), ("t", ("z",), ("z",))):
            told = shown(PLAIN, roots, stock, pattern)
            self.assertEqual(sum(told), whole)
            self.assertGreater(min(told[1:]), -1)
            self.assertGreater(told[-1], 0)
            self.assertEqual(sum(j * many for j, many in enumerate(told)), marked(PLAIN, roots, stock, pattern, 1))
            self.check_standing(pattern, stock, roots)

    def check_standing(self, pattern, stock, roots):
        grove = shown_in_some(PLAIN, roots, stock, pattern)
        self.assertTrue(standing(PLAIN, grove, pattern))
        self.assertEqual(stock_of(PLAIN, grove), stock)

    def test_what_was_passed_stays(self):
        book, roots = sample_book(), ["red"]
        marked(book, roots, (1, 2, 2), ("b", None), 1)
        shown_in_some(book, roots, (1, 2, 2), ("b", None))
        shown(book, roots, (1, 2, 2), ("b", None))
        average(book, roots, (1, 2, 2), ("b", None))
        grove = [("a", ("z",), ("z",))]
        standing(book, grove, ("z",))
        self.assertEqual((book, roots, grove), (sample_book(), ["red"], [("a", ("z",), ("z",))]))


if __name__ == "__main__":
    unittest.main()
