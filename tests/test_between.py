"""bushcoins.between: S4.4, S4.5 and S4.7."""

import unittest

from bushcoins.bags import Bag
from bushcoins.between import all_between, begins, change, count_ways, first_deeds, is_between
from bushcoins.books import Book
from bushcoins.coins import coins, way
from bushcoins.deeds import all_deeds, canonical, done
from bushcoins.errors import BadDeed, UnlikeGroves
from bushcoins.groves import Grove
from bushcoins.rings import right_places, rings
from bushcoins.scripts import steps
from tests.lands import any_deed, chain_grove, countries, forked_grove, large_grove, spoilt, unlike_groves
from tests.samples import Case, random_source, sample_grove

HANG = ("hang", ("p", 1), ("q", 0))


def cost(deed):
    return 1 if deed[0] == "hang" else 2


class TestChange(Case):
    def test_all_deeds_of_small_groves(self):
        for country in countries():
            for one, other in country.pairs(41):
                f, g = country.groves[one], country.groves[other]
                for deed in country.surgeries[one].every_deed():
                    right = len(rings(done(f, deed), g)) - len(rings(f, g))
                    self.assertEqual(change(f, g, deed), right)
                    self.assertIn(right, (1, -1) if deed[0] == "hang" else (2, 0, -2))
                    self.assertIs(begins(f, g, deed), right == cost(deed))

    def test_begins_against_a_search(self):
        """A deed begins a fewest way if what it costs and what is left make what the coins are."""
        for country in countries():
            for one, other in country.pairs(23):
                f, g = country.groves[one], country.groves[other]
                costs = country.land.costs(other)
                for deed, paid, behind in country.land.deeds[one]:
                    self.assertIs(begins(f, g, deed), len(paid) + costs[behind] == costs[one])

    def test_one_coin_begins_exactly_in_one_ring(self):
        for country in countries():
            for one, other in country.pairs(13):
                f, g = country.groves[one], country.groves[other]
                for deed in all_deeds(f):
                    if deed[0] == "hang":
                        same = [ring for ring in rings(f, g) if deed[1] in ring and deed[2] in ring]
                        self.assertIs(begins(f, g, deed), bool(same))

    def test_large_groves(self):
        draw = random_source(71)
        for _ in range(6):
            f = large_grove(draw)
            g = f
            for _ in range(15):
                g = done(g, any_deed(draw, g))
            for _ in range(15):
                deed = any_deed(draw, f)
                behind = done(f, deed)
                self.assertEqual(change(f, g, deed), coins(f, g) - coins(behind, g))
            for h, deed in zip(steps(f, way(f, g)), way(f, g)):
                self.assertIs(begins(h, g, deed), True)
                self.assertEqual(change(h, g, deed), cost(deed))

    def test_by_hand(self):
        f = sample_grove()
        g = done(f, HANG)
        self.assertEqual(change(f, g, HANG), 1)
        self.assertEqual(change(f, f, HANG), -1)
        self.assertEqual(change(f, f, ("stretch", ("p", 0), ("q", 0), ("p", 1), ("p", 1))), -2)
        self.assertIs(type(change(f, g, HANG)), int)
        self.assertIs(begins(f, g, HANG), True)
        self.assertIs(begins(f, g, ("hang", ("q", 0), ("p", 1))), True)
        self.assertIs(begins(f, f, HANG), False)

    def test_values_that_are_no_deeds(self):
        f = sample_grove()
        g = done(f, HANG)
        for value in spoilt(HANG) + [("hang", ("p", 0), ("q", 0))]:
            for call in (change, begins):
                with self.assertRaises(BadDeed) as caught:
                    call(f, g, value)
                self.assertIs(type(caught.exception.number), int)
                self.assertEqual(caught.exception.number, 0)

    def test_the_deed_is_one_of_the_first_grove(self):
        f = sample_grove()
        g = done(f, HANG)
        deed = ("stretch", ("p", 0), ("q", 0), ("p", 1), ("r", 0))
        self.assertEqual(change(g, f, deed), len(rings(done(g, deed), f)) - len(rings(g, f)))
        with self.assertRaises(BadDeed):
            change(f, g, deed)

    def test_unlike_groves_come_first(self):
        for one, other in unlike_groves():
            for call in (
                lambda: change(one, other, None),
                lambda: begins(one, other, []),
                lambda: change(one, other, HANG),
                lambda: first_deeds(one, other),
                lambda: all_between(one, other),
                lambda: count_ways(one, other),
                lambda: is_between(one, one, other),
                lambda: is_between(one, other, one),
                lambda: is_between(other, one, one),
                lambda: is_between(one, other, other),
            ):
                with self.assertRaises(UnlikeGroves) as caught:
                    call()
                self.assertIs(type(caught.exception), UnlikeGroves)


class TestFirstDeeds(Case):
    def test_small_groves(self):
        for country in countries():
            for one, other in country.pairs(17):
                costs = country.land.costs(other)
                right = [
                    deed for deed, paid, behind in country.land.deeds[one]
                    if costs[behind] + len(paid) == costs[one]
                ]
                f, g = country.groves[one], country.groves[other]
                self.assertEqual(first_deeds(f, g), right)
                self.assertIs(bool(right), one != other)

    def test_no_deed_touches_a_right_place(self):
        for country in countries():
            for one, other in country.pairs(19):
                f, g = country.groves[one], country.groves[other]
                for deed in first_deeds(f, g):
                    behind = done(f, deed)
                    for place in right_places(f, g):
                        self.assertEqual(behind.joint(place), f.joint(place))

    def test_canonical_in_the_order_of_all_deeds(self):
        draw = random_source(72)
        names = [f"j{k}" for k in range(11)]
        f = chain_grove(names, "end")
        order = list(names)
        draw.shuffle(order)
        g = chain_grove(order, "end")
        told = first_deeds(f, g)
        self.assertEqual(told, [deed for deed in all_deeds(f) if begins(f, g, deed)])
        self.assertTrue(told)
        for deed in told:
            self.assertEqual(canonical(f.bag(), f.roots(), deed), deed)

    def test_lists_are_new(self):
        f = sample_grove()
        g = done(f, HANG)
        self.assert_new(lambda: first_deeds(f, g))
        self.assert_new(lambda: all_between(f, g))
        self.assert_new(lambda: first_deeds(f, f))
        self.assertEqual(f, sample_grove())


class TestBetween(Case):
    def order(self, country, start, bushes):
        """What the groves between are ordered by: the coins from the first one, then the joints at the places."""
        grove = country.groves[bushes]
        names = grove.bag().names()
        return (country.land.costs(start)[bushes], [names.index(name) for _, name in grove.table()])

    def test_against_a_search(self):
        for country in countries():
            for one, other in country.pairs(97):
                f, g = country.groves[one], country.groves[other]
                first, last = country.land.costs(one), country.land.costs(other)
                right = []
                for bushes, h in country.groves.items():
                    lies = first[bushes] + last[bushes] == first[other]
                    self.assertIs(is_between(f, h, g), lies)
                    if lies:
                        right.append(bushes)
                if coins(f, g) <= 4:
                    right = sorted(right, key=lambda bushes: self.order(country, one, bushes))
                    self.assertEqual([tuple(h.bushes()) for h in all_between(f, g)], right)

    def test_the_two_are_between(self):
        f = sample_grove()
        g = done(f, HANG)
        self.assertIs(is_between(f, f, g), True)
        self.assertIs(is_between(f, g, g), True)
        self.assertIs(is_between(f, f, f), True)
        self.assertIs(is_between(f, g, f), False)
        self.assertEqual(all_between(f, g), [f, g])
        self.assertEqual(all_between(f, f), [f])

    def test_groves_of_a_way_are_between(self):
        draw = random_source(73)
        for _ in range(5):
            f = large_grove(draw)
            g = f
            for _ in range(12):
                g = done(g, any_deed(draw, g))
            for h in steps(f, way(f, g)):
                self.assertIs(is_between(f, h, g), True)

    def test_the_order_by_joints(self):
        # From y, z, x at three roots to x, y, z: two coins, and three groves lie at one coin.
        book = Book([("s", "c", ())])
        bag = Bag(book, [("z", "s"), ("y", "s"), ("x", "s")])
        f = Grove(bag, ("c",) * 3, (("y",), ("z",), ("x",)))
        g = Grove(bag, ("c",) * 3, (("x",), ("y",), ("z",)))
        told = [[bush[0] for bush in h.bushes()] for h in all_between(f, g)]
        self.assertEqual(told, [
            ["y", "z", "x"],
            ["z", "y", "x"], ["y", "x", "z"], ["x", "z", "y"],
            ["x", "y", "z"],
        ])


class TestCountWays(Case):
    def test_against_a_search(self):
        for country in countries():
            for one, other in country.pairs(67):
                f, g = country.groves[one], country.groves[other]
                if coins(f, g) <= 4:
                    self.assertEqual(count_ways(f, g), len(country.land.ways(one, other)))

    def test_from_a_grove_to_itself(self):
        for country in countries():
            f = list(country.groves.values())[0]
            self.assertEqual(count_ways(f, f), 1)
        empty = Grove(Bag(Book(()), ()), (), ())
        self.assertEqual(count_ways(empty, empty), 1)
        self.assertEqual(all_between(empty, empty), [empty])

    def test_by_hand(self):
        f = forked_grove()
        g = done(f, ("hang", ("b", 0), ("d", 0)))
        self.assertEqual(count_ways(f, g), 1)
        self.assertIs(type(count_ways(f, g)), int)
        h = chain_grove(["a", "b", "c"])
        self.assertEqual(count_ways(h, chain_grove(["b", "a", "c"])), 1)
        self.assertEqual(count_ways(h, chain_grove(["b", "c", "a"])), 1)

    def test_leaves_at_roots(self):
        """Where nothing hangs at a joint all deeds are exchanges of two leaves: n ** (n - 2) ways for a ring of n."""
        book = Book([("s", "c", ())])
        for many, right in ((2, 1), (3, 3), (4, 16), (5, 125)):
            names = [f"j{k}" for k in range(many)]
            bag = Bag(book, [(name, "s") for name in names])
            f = Grove(bag, ("c",) * many, [(name,) for name in names])
            g = Grove(bag, ("c",) * many, [(name,) for name in names[1:] + names[:1]])
            self.assertEqual(count_ways(f, g), right)

    def test_eight_joints_and_four_coins(self):
        f = chain_grove(["a", "b", "c", "d", "e", "f", "g"])
        g = chain_grove(["b", "c", "a", "d", "f", "g", "e"])
        self.assertEqual(coins(f, g), 4)
        self.assertEqual(count_ways(f, g), len(self.every_way(f, g)))

    def every_way(self, f, g):
        if f == g:
            return [[]]
        found = []
        for deed in all_deeds(f):
            h = done(f, deed)
            if cost(deed) + coins(h, g) == coins(f, g):
                found += [[deed] + rest for rest in self.every_way(h, g)]
        return found


if __name__ == "__main__":
    unittest.main()
