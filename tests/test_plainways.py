"""bushcoins.plainways: S5.1 to S5.3."""

import unittest

from bushcoins.bags import Bag
from bushcoins.books import Book
from bushcoins.coins import coins, judge_way, way
from bushcoins.deeds import done
from bushcoins.errors import UnlikeStocks
from bushcoins.groves import Grove
from bushcoins.plain import named, plain_of
from bushcoins.plainways import judge_plain_way, like_namings, like_top, naming, plain_way
from tests.lands import PLAIN_BOOK, any_deed, large_grove
from tests.samples import Case, anything, random_source, sample_book, sample_grove
from tests.test_stocks import all_parts

ROOTS = ("red",)
ONE = (("a", ("b", ("b", ("z",))), ("z",)),)
OTHER = (("a", ("b", ("z",)), ("b", ("z",))),)


def told_top(one, other):
    """The like top by a look at each path and all shorter ones."""
    first, second = dict(all_parts(one)), dict(all_parts(other))
    found = []
    for path, _ in all_parts(one):
        begins = [path[:k] for k in range(1, len(path) + 1)]
        if all(begin in second and first[begin][0] == second[begin][0] for begin in begins):
            found.append(path)
    return found


def told_namings(bag_names, one, other):
    """The names of the like namings by path, in both groves."""
    first = {path: name for name, (path, _) in zip(bag_names, all_parts(one))}
    top = told_top(one, other)
    second = {path: first[path] for path in top}
    for path, bush in all_parts(other):
        if path not in top:
            free = [
                first[each] for each, part in all_parts(one)
                if each not in top and part[0] == bush[0] and first[each] not in second.values()
            ]
            second[path] = free[0]
    return first, second


def by_path(grove):
    return {path: bush[0] for path, bush in all_parts(grove.bushes())}


def stocked_pairs(draw, many):
    """Pairs of large plain groves with one stock, with book and roots."""
    found = [(sample_book(), ROOTS, ONE, OTHER), (sample_book(), ROOTS, OTHER, ONE), (sample_book(), ROOTS, ONE, ONE)]
    found.append((Book(()), (), (), ()))
    for k in range(many):
        grove = large_grove(draw)
        other = grove
        for _ in range(k % 7):
            other = done(other, any_deed(draw, other))
        found.append((grove.bag().book(), grove.roots(), plain_of(grove), plain_of(other)))
    return found


class TestNaming(Case):
    def test_by_hand(self):
        told = naming(sample_book(), ROOTS, ONE, ["p", "q", "r", "z", "y"])
        self.assertIs(type(told), Grove)
        self.assertEqual(told.bushes(), [("p", ("q", ("r", ("z",))), ("y",))])
        self.assertEqual(told.bag().joints(), [("p", "a"), ("q", "b"), ("r", "b"), ("z", "z"), ("y", "z")])
        self.assertEqual(told.roots(), ROOTS)
        self.assertEqual(naming(sample_book(), ROOTS, list(ONE), ("p", "q", "r", "z", "y")), told)
        self.assertEqual(naming(Book(()), (), (), []).bushes(), [])

    def test_large_groves(self):
        draw = random_source(91)
        for book, roots, plain, _ in stocked_pairs(draw, 6):
            names = [f"x{k}" for k in range(len(all_parts(plain)))]
            draw.shuffle(names)
            told = naming(book, roots, plain, names)
            self.assertEqual(plain_of(told), plain)
            self.assertEqual(told.walk(), names)
            self.assertEqual(told.bag().names(), names)
            self.assertEqual(told.bag().book(), book)
            self.assertEqual(told.roots(), roots)

    def test_names_stay(self):
        names = ["p", "q", "r", "z", "y"]
        naming(sample_book(), ROOTS, ONE, names)
        self.assertEqual(names, ["p", "q", "r", "z", "y"])


class TestLikeTop(Case):
    def test_by_hand(self):
        self.assertEqual(like_top(ONE, OTHER), [(0,), (0, 0)])
        self.assertEqual(like_top(ONE, ONE), [(0,), (0, 0), (0, 0, 0), (0, 0, 0, 0), (0, 1)])
        self.assertEqual(like_top((), ()), [])
        # Unlike at once, though what hangs below is alike; stocks may differ.
        self.assertEqual(like_top((("b", ("z",)),), (("t", ("z",), ("z",)),)), [])
        self.assertEqual(like_top((("z",), ("b", ("z",))), (("b", ("z",)), ("b", ("z",)))), [(1,), (1, 0)])

    def test_against_a_look_path_by_path(self):
        for _, _, one, other in stocked_pairs(random_source(92), 14):
            told = like_top(one, other)
            self.assertEqual(told, told_top(one, other))
            self.assertEqual(like_top(list(one), list(other)), told)
            for path in told:
                self.assertIs(type(path), tuple)

    def test_new_lists(self):
        self.assert_new(lambda: like_top(ONE, OTHER))
        self.assert_new(lambda: like_top((), ()))


class TestLikeNamings(Case):
    def test_by_hand(self):
        told = like_namings(sample_book(), ROOTS, ONE, OTHER)
        self.assertIs(type(told), tuple)
        f, g = told
        self.assertEqual(f.bushes(), [("j1", ("j2", ("j3", ("j4",))), ("j5",))])
        self.assertEqual(g.bushes(), [("j1", ("j2", ("j4",)), ("j3", ("j5",)))])
        self.assertEqual(f.bag(), g.bag())
        self.assertEqual(f.bag().names(), ["j1", "j2", "j3", "j4", "j5"])

    def test_tops_that_are_unlike_at_once(self):
        book = Book(PLAIN_BOOK)
        one = (("b", ("t", ("z",), ("z",))),)
        other = (("t", ("z",), ("b", ("z",))),)
        f, g = like_namings(book, ("c",), one, other)
        self.assertEqual(f.bushes(), [("j1", ("j2", ("j3",), ("j4",)))])
        self.assertEqual(g.bushes(), [("j2", ("j3",), ("j1", ("j4",)))])

    def test_against_a_look_path_by_path(self):
        for book, roots, one, other in stocked_pairs(random_source(93), 14):
            f, g = like_namings(book, roots, list(one), list(other))
            self.assertEqual(f, named(book, roots, one))
            self.assertEqual((plain_of(f), plain_of(g)), (one, other))
            self.assertEqual(f.bag(), g.bag())
            self.assertEqual(g.roots(), roots)
            first, second = told_namings(f.walk(), one, other)
            self.assertEqual(by_path(f), first)
            self.assertEqual(by_path(g), second)


class TestPlainWay(Case):
    def test_any_groves(self):
        for book, roots, one, other in stocked_pairs(random_source(94), 10):
            for first, second in ((one, other), (list(other), list(one))):
                told = plain_way(book, roots, first, second)
                self.assertIs(type(told), tuple)
                f, g, script = told
                self.assertIs(type(script), list)
                self.assertEqual(plain_of(f), tuple(first))
                self.assertEqual(plain_of(g), tuple(second))
                self.assertEqual(f.bag(), g.bag())
                self.assertEqual(f.bag().book(), book)
                self.assertEqual((f.roots(), g.roots()), (roots, roots))
                self.assertIsNone(judge_way(f, g, script))
                self.assertIs(judge_plain_way(book, roots, first, second, told), True)

    def test_unlike_stocks_come_first(self):
        book = Book([("y", "c", ()), ("b", "c", ("c",)), ("a", "c", ())])
        one, other = (("b", ("a",)),), (("b", ("y",)),)
        for first, second in ((one, other), (other, one)):
            for call in (
                lambda: like_namings(book, ("c",), first, second),
                lambda: plain_way(book, ("c",), first, second),
                lambda: judge_plain_way(book, ("c",), first, second, None),
                lambda: judge_plain_way(book, ("c",), first, second, ()),
            ):
                with self.assertRaises(UnlikeStocks) as caught:
                    call()
                self.assertIs(type(caught.exception), UnlikeStocks)
                self.assertEqual(caught.exception.word, "y")
        with self.assertRaises(UnlikeStocks) as caught:
            plain_way(book, ("c",), one, (("a",),))
        self.assertEqual(caught.exception.word, "b")
        # The tops of groves with unlike stocks are told.
        self.assertEqual(like_top(one, other), [(0,)])


class TestJudgePlainWay(Case):
    def judge(self, value, one=ONE, other=OTHER, book=None, roots=ROOTS):
        return judge_plain_way(book or sample_book(), roots, one, other, value)

    def groves(self):
        return like_namings(sample_book(), ROOTS, ONE, OTHER)

    def test_any_namings_and_any_fewest_way(self):
        names = ["p", "q", "r", "z", "y"]
        f = naming(sample_book(), ROOTS, ONE, names)
        for bushes in (
            [("p", ("q", ("z",)), ("r", ("y",)))], [("p", ("r", ("z",)), ("q", ("y",)))],
            [("p", ("r", ("y",)), ("q", ("z",)))],
        ):
            g = Grove(f.bag(), ROOTS, bushes)
            for script in (way(f, g), tuple(way(f, g))):
                self.assertIs(self.judge((f, g, script)), True)
                self.assertIs(self.judge((f, g, script), list(ONE), list(OTHER)), True)

    def test_the_bag_may_have_any_order(self):
        f = sample_grove()
        self.assertEqual(plain_of(f), ONE)
        g = Grove(f.bag(), ROOTS, [("p", ("q", ("y",)), ("r", ("z",)))])
        self.assertIs(self.judge((f, g, [("hang", ("q", 0), ("p", 1))])), True)
        self.assertIs(self.judge((f, g, way(f, g) * 3)), False)

    def test_left_out_doubled_and_exchanged(self):
        f, g = self.groves()
        script = way(f, g)
        self.assertIs(self.judge((f, g, script)), True)
        for value in (
            (f, g), (f, script), (g, script), (f, g, script, script), (f, f, g, script), (g, f, script), (f, script, g),
            (script, f, g), (f, f, script), (g, g, script), (f, f, []), (f, g, script + script), (f, g, script * 3),
            (f, g, script[:-1]), (f, g, []), (f, g, [None]), (f, g, None), (f, g, [list(deed) for deed in script]),
            (f, g, script[0]), [f, g, script], ((f, g, script),), (f, g, {}), (f, g, {0: script[0]}),
            (None, g, script), (f, None, script), (f.bushes(), g.bushes(), script), (ONE, OTHER, script),
            (f.bag(), g.bag(), script), ([f], [g], script), f, g, script, f.bag(),
        ):
            self.assertIs(self.judge(value), False, value)
        self.assertIs(self.judge((f, g, tuple(script))), True)

    def test_the_other_way_round(self):
        f, g = self.groves()
        self.assertIs(self.judge((g, f, way(g, f)), OTHER, ONE), True)
        self.assertIs(self.judge((f, g, way(f, g)), OTHER, ONE), False)
        self.assertIs(self.judge((f, f, []), ONE, ONE), True)
        self.assertIs(self.judge((f, g, way(f, g)), ONE, ONE), False)

    def test_dearer_scripts(self):
        f, g = self.groves()
        dear = way(f, g) + [("hang", ("j1", 0), ("j1", 1))] * 2
        self.assertEqual(judge_way(f, g, dear)[0], "coins")
        self.assertIs(self.judge((f, g, dear)), False)
        # Other namings may need more coins than the fewest of all; they are right, too.
        h = Grove(f.bag(), ROOTS, [("j1", ("j3", ("j5",)), ("j2", ("j4",)))])
        self.assertGreater(coins(f, h), coins(f, g))
        self.assertIs(self.judge((f, h, way(f, h))), True)

    def test_bags_in_another_order_of_another_book_or_with_other_names(self):
        f, g = self.groves()
        script = way(f, g)
        bag = f.bag()
        turned = Bag(bag.book(), bag.joints()[::-1])
        wider = Bag(Book(sample_book().shapes() + [("w", "red", ())]), bag.joints())
        other = Bag(bag.book(), [(name if name != "j5" else "x", word) for name, word in bag.joints()])
        for strange in (turned, wider):
            f2, g2 = Grove(strange, ROOTS, f.bushes()), Grove(strange, ROOTS, g.bushes())
            self.assertIs(self.judge((f, g2, script)), False)
            self.assertIs(self.judge((f2, g, script)), False)
            self.assertIs(self.judge((f2, g2, script)), strange is turned)
        f2 = Grove(other, ROOTS, [("j1", ("j2", ("j3", ("j4",))), ("x",))])
        self.assertEqual(plain_of(f2), ONE)
        self.assertIs(self.judge((f2, g, script)), False)

    def test_other_roots(self):
        book = Book([("r", "red", ()), ("z", "blue", ()), ("t", "red", ("blue",))])
        one = (("r",), ("t", ("z",)))
        other = (("t", ("z",)), ("r",))
        f, g = like_namings(book, ("red", "red"), one, other)
        self.assertIs(self.judge((f, g, way(f, g)), one, other, book, ("red", "red")), True)
        # Named with a root less they are namings of other groves.
        h = named(book, ("red",), (("t", ("z",)),))
        self.assertIs(self.judge((h, h, []), one, other, book, ("red", "red")), False)

    def test_values_of_every_kind(self):
        f, g = self.groves()
        script = way(f, g)
        for value in anything():
            self.assertIs(self.judge(value), False)
            self.assertIs(self.judge((value, g, script)), False)
            self.assertIs(self.judge((f, value, script)), False)
            self.assertIs(self.judge((f, g, value)), False)
            self.assertIs(self.judge((f, g, [value])), False)

    def test_what_is_judged_stays(self):
        f, g = self.groves()
        script = way(f, g)
        known = list(script)
        self.judge((f, g, script))
        self.assertEqual(script, known)


if __name__ == "__main__":
    unittest.main()
