"""bushcoins.coins: S4.2, S4.3, S4.6 and the places that a deed touches."""

import unittest

from bushcoins.bags import Bag
from bushcoins.books import Book
from bushcoins.coins import coins, coins_by_colour, judge_way, least_price, touched, way
from bushcoins.deeds import all_deeds, done
from bushcoins.errors import BadDeed, UnknownName, UnlikeGroves
from bushcoins.groves import Grove
from bushcoins.rings import right_places
from bushcoins.scripts import price, steps, walked
from tests.lands import (
    any_deed, chain_grove, countries, forked_grove, large_grove, mixed_grove, spoilt, unlike_groves,
)
from tests.oracles import Surgery
from tests.samples import Case, anything, random_source, sample_grove


def far_groves(draw, many):
    """Pairs of large groves far apart."""
    found = []
    for _ in range(many):
        f = large_grove(draw)
        g = f
        for _ in range(25):
            g = done(g, any_deed(draw, g))
        found.append((f, g))
    return found


def far_chains(draw, many):
    """Pairs of chains of sixty joints, in which no two places are apart."""
    names = [f"j{k}" for k in range(59)]
    found = []
    for _ in range(many):
        order = list(names)
        draw.shuffle(order)
        found.append((chain_grove(names, "end"), chain_grove(order, "end")))
    return found


class TestCoins(Case):
    def test_against_a_search_over_all_deeds(self):
        for country in countries():
            for start, f in country.groves.items():
                costs = country.land.costs(start)
                for end, g in country.groves.items():
                    self.assertEqual(coins(f, g), costs[end], (start, end))

    def test_least_price_against_a_search(self):
        for prices in ({"c": 3, "red": 1, "blue": 5}, {"c": 0, "red": 0, "blue": 2}, {"c": 1, "red": 7, "blue": 1}):
            for country in countries():
                for start, f in list(country.groves.items())[::4]:
                    costs = country.land.costs(start, prices)
                    for end, g in country.groves.items():
                        self.assertEqual(least_price(f, g, list(prices.items())), costs[end])

    def test_by_colour(self):
        """The coins of each colour are what the cheapest ways pay in it if only this colour costs anything."""
        for country in countries():
            for start, f in list(country.groves.items())[::5]:
                colours = []
                for place in country.surgeries[start].places:
                    if country.surgeries[start].colour(place) not in colours:
                        colours.append(country.surgeries[start].colour(place))
                alone = {
                    colour: country.land.costs(start, {each: int(each == colour) for each in colours})
                    for colour in colours
                }
                for end, g in country.groves.items():
                    self.assertEqual(coins_by_colour(f, g), [(colour, alone[colour][end]) for colour in colours])

    def test_by_hand(self):
        f = sample_grove()
        self.assertEqual(coins(f, f), 0)
        self.assertEqual(coins_by_colour(f, f), [("red", 0), ("blue", 0)])
        g = Grove(f.bag(), f.roots(), [("p", ("r", ("z",)), ("q", ("y",)))])
        self.assertEqual(coins(f, g), 2)
        self.assertEqual(coins_by_colour(f, g), [("red", 0), ("blue", 2)])
        self.assertIs(type(coins(f, g)), int)
        empty = Grove(Bag(Book(()), ()), (), ())
        self.assertEqual(coins(empty, empty), 0)
        self.assertEqual(coins_by_colour(empty, empty), [])
        self.assertEqual(least_price(empty, empty, []), 0)

    def test_large_groves(self):
        """S4.2: both ways the same, no more than places less colours, and never more than over a third grove."""
        draw = random_source(61)
        for f, g in far_groves(draw, 6) + far_chains(draw, 3):
            self.assertEqual(coins(f, g), coins(g, f))
            self.assertGreater(coins(f, g), 0)
            by_colour = coins_by_colour(f, g)
            self.assertEqual(sum(many for _, many in by_colour), coins(f, g))
            self.assertLessEqual(coins(f, g), len(f.table()) - len(by_colour))
            h = done(g, any_deed(draw, g))
            self.assertLessEqual(coins(f, h), coins(f, g) + coins(g, h))

    def test_prices(self):
        f = mixed_grove()
        deeds = [("hang", ("root", 1), ("a1", 0)), ("hang", ("a1", 1), ("b1", 0))]
        g = walked(f, deeds)
        self.assertEqual(coins_by_colour(f, g), [("red", 1), ("blue", 1)])
        self.assertEqual(least_price(f, g, [("red", 5), ("blue", 7)]), 12)
        self.assertEqual(least_price(f, g, (("blue", 7), ("red", 0))), 7)
        self.assertEqual(least_price(f, g, [("green", 9), ("blue", 10 ** 12), ("red", 10 ** 12)]), 2 * 10 ** 12)
        self.assertEqual(least_price(f, f, [("red", 5), ("blue", 7)]), 0)
        prices = [("red", 5), ("blue", 7)]
        least_price(f, g, prices)
        self.assertEqual(prices, [("red", 5), ("blue", 7)])

    def test_missing_prices(self):
        f = mixed_grove()
        g = done(f, ("hang", ("root", 1), ("a1", 0)))
        for prices, missing in (
            ([], "red"), ([("blue", 1)], "red"), ([("red", 1)], "blue"), ([("green", 1), ("red", 0)], "blue"),
            ([("green", 1)], "red"),
        ):
            for other in (f, g):
                with self.assertRaises(UnknownName) as caught:
                    least_price(f, other, prices)
                self.assertEqual(caught.exception.name, missing)

    def test_unlike_groves_come_first(self):
        for one, other in unlike_groves():
            for call in (
                lambda: coins(one, other),
                lambda: coins_by_colour(one, other),
                lambda: least_price(one, other, []),
                lambda: way(one, other),
                lambda: judge_way(one, other, []),
                lambda: judge_way(one, other, None),
                lambda: judge_way(one, other, [None]),
            ):
                with self.assertRaises(UnlikeGroves) as caught:
                    call()
                self.assertIs(type(caught.exception), UnlikeGroves)

    def test_lists_are_new(self):
        f = sample_grove()
        g = done(f, ("hang", ("p", 0), ("p", 1)))
        self.assert_new(lambda: coins_by_colour(f, g))
        self.assert_new(lambda: way(f, g))
        self.assert_new(lambda: way(f, f))
        self.assert_new(lambda: touched(f, ("hang", ("p", 0), ("p", 1))))
        self.assertEqual(f, sample_grove())


class TestWay(Case):
    def check_way(self, f, g):
        script = way(f, g)
        self.assertIs(type(script), list)
        self.assertEqual(walked(f, script), g)
        bag, roots = f.bag(), f.roots()
        self.assertEqual(price(bag, roots, script), coins_by_colour(f, g))
        self.assertIsNone(judge_way(f, g, script))
        right = right_places(f, g)
        for h, deed in zip(steps(f, script), script):
            for place in touched(h, deed):
                self.assertNotIn(place, right)
        # S4.6: so many deeds of one coin that both numbers are even, or both odd.
        single = [deed for deed in script if deed[0] == "hang"]
        self.assertEqual(len(single) % 2, coins(f, g) % 2)
        self.assertEqual(way(f, g), script)

    def test_pairs_of_small_groves(self):
        for country in countries():
            for one, other in country.pairs(5):
                self.check_way(country.groves[one], country.groves[other])

    def test_from_a_grove_to_itself(self):
        self.assertEqual(way(sample_grove(), sample_grove()), [])

    def test_large_groves_far_apart(self):
        draw = random_source(62)
        for f, g in far_groves(draw, 10) + far_chains(draw, 5):
            self.check_way(f, g)
            self.check_way(g, f)

    def test_where_one_stretch_lies_below_another_one(self):
        """The case of S4.3 in which the stretches from a to p and from b to d change places, and the one with p is a."""
        f = chain_grove(["a", "b", "c", "d", "e"])
        met = {}
        for names in ("badce", "cdabe", "dbcae", "edcba", "acbed", "baedc", "bcdea"):
            g = chain_grove(list(names))
            self.check_way(f, g)
            for h, deed in zip(steps(f, way(f, g)), way(f, g)):
                met[Surgery(h.bag(), h.roots(), h.bushes()).case(deed)] = True
        self.assertTrue(met.get(1))
        self.assertTrue(met.get(2) or met.get(3))

    def test_a_stretch_to_an_empty_one(self):
        """The case of S4.3 in which p is a and b is not above d."""
        f = forked_grove()
        g = Grove(f.bag(), f.roots(), [("t", ("y",), ("d", ("b", ("x",))))])
        self.check_way(f, g)
        self.assertEqual([deed[0] for deed in way(f, g)], ["stretch"])


class TestJudgeWay(Case):
    def test_all_fewest_ways_of_small_groves(self):
        for country in countries():
            for one, other in country.pairs(37):
                f, g = country.groves[one], country.groves[other]
                if coins(f, g) <= 3:
                    for script in country.land.ways(one, other):
                        self.assertIsNone(judge_way(f, g, script))
                        self.assertIsNone(judge_way(f, g, tuple(script)))

    def test_deeds_that_are_not_canonical(self):
        f = sample_grove()
        g = done(f, ("hang", ("p", 1), ("q", 0)))
        self.assertIsNone(judge_way(f, g, [("hang", ("q", 0), ("p", 1))]))
        h = done(f, ("stretch", ("p", 0), ("q", 0), ("q", 0), ("r", 0)))
        self.assertIsNone(judge_way(f, h, (("stretch", ("q", 0), ("r", 0), ("p", 0), ("q", 0)),)))

    def test_form(self):
        f = sample_grove()
        for value in anything():
            if type(value) in (list, tuple):
                continue
            told = judge_way(f, f, value)
            self.assertEqual(told, ("form",))
            self.assertIs(type(told), tuple)
        self.assertEqual(judge_way(f, f, {}), ("form",))
        self.assertEqual(judge_way(f, f, ""), ("form",))

    def test_deed(self):
        f = sample_grove()
        hang = ("hang", ("p", 1), ("q", 0))
        g = done(f, hang)
        for value in anything():
            if type(value) in (list, tuple) and value:
                self.assertEqual(judge_way(f, g, value), ("deed", 0))
        for value in spoilt(hang):
            self.assertEqual(judge_way(f, g, [value]), ("deed", 0))
            self.assertEqual(judge_way(f, g, (hang, value)), ("deed", 1))
        self.assertEqual(judge_way(f, g, hang), ("deed", 0))
        # It can be done at its turn, or not at its turn.
        back = ("stretch", ("p", 1), ("r", 0), ("p", 0), ("p", 0))
        self.assertEqual(judge_way(f, g, [back, hang]), ("deed", 0))
        self.assertEqual(judge_way(f, g, [hang, hang, back]), ("deed", 2))
        self.assertIs(type(judge_way(f, g, [back])[1]), int)

    def test_end(self):
        f = sample_grove()
        hang = ("hang", ("p", 1), ("q", 0))
        g = done(f, hang)
        for script in ([], (), [hang, hang], [("hang", ("p", 0), ("p", 1))]):
            self.assertEqual(judge_way(f, g, script), ("end",))
        self.assertEqual(judge_way(f, f, [hang]), ("end",))
        self.assertIsNone(judge_way(f, f, []))
        self.assertIsNone(judge_way(f, f, ()))

    def test_coins(self):
        f = sample_grove()
        hang = ("hang", ("p", 1), ("q", 0))
        g = done(f, hang)
        self.assertEqual(judge_way(f, g, [hang, hang, hang]), ("coins", 2))
        self.assertEqual(judge_way(f, f, [hang, hang]), ("coins", 2))
        self.assertEqual(judge_way(f, f, (hang,) * 120), ("coins", 120))
        stretch = ("stretch", ("p", 0), ("q", 0), ("p", 1), ("p", 1))
        back = ("stretch", ("p", 0), ("p", 0), ("p", 1), ("q", 0))
        self.assertEqual(judge_way(f, f, [stretch, back]), ("coins", 4))
        h = done(f, stretch)
        self.assertIsNone(judge_way(f, h, [stretch]))
        self.assertEqual(judge_way(f, h, [hang, hang, stretch]), ("coins", 2))
        self.assertIs(type(judge_way(f, f, [hang, hang])[1]), int)

    def test_the_first_word_that_applies(self):
        f = sample_grove()
        hang = ("hang", ("p", 1), ("q", 0))
        g = done(f, hang)
        # Too dear and at a wrong end; a bad member, a wrong end and too dear.
        self.assertEqual(judge_way(f, g, [hang, hang]), ("end",))
        self.assertEqual(judge_way(f, g, [hang, hang, None]), ("deed", 2))
        self.assertEqual(judge_way(f, f, [hang, hang, None, None]), ("deed", 2))
        self.assertEqual(judge_way(f, f, {0: None}), ("form",))

    def test_scripts_of_small_groves(self):
        draw = random_source(63)
        for country in countries():
            for _ in range(30):
                f = draw.choice(list(country.groves.values()))
                h, script, paid = f, [], 0
                for _ in range(draw.randrange(5)):
                    script.append(draw.choice(all_deeds(h)))
                    h = done(h, script[-1])
                    paid += 1 if script[-1][0] == "hang" else 2
                more = paid - coins(f, h)
                self.assertEqual(judge_way(f, h, script), ("coins", more) if more else None)

    def test_what_is_judged_stays(self):
        f = sample_grove()
        script = [("hang", ("p", 1), ("q", 0)), ["x"]]
        judge_way(f, f, script)
        self.assertEqual(script, [("hang", ("p", 1), ("q", 0)), ["x"]])


class TestTouched(Case):
    def test_all_deeds_of_small_groves(self):
        for country in countries():
            for bushes, grove in country.groves.items():
                for deed in country.surgeries[bushes].every_deed():
                    behind = done(grove, deed)
                    right = [place for place, name in grove.table() if behind.joint(place) != name]
                    self.assertEqual(touched(grove, deed), right)
                    self.assertIn(len(right), (2,) if deed[0] == "hang" else (3, 4))

    def test_in_the_order_of_places(self):
        grove = mixed_grove()
        self.assertEqual(touched(grove, ("hang", ("a1", 0), ("root", 1))), [("root", 1), ("a1", 0)])
        deed = ("stretch", ("b1", 0), ("a2", 0), ("root", 0), ("a1", 0))
        self.assertEqual(touched(grove, deed), [("root", 0), ("a1", 0), ("b1", 0), ("a2", 0)])

    def test_values_that_are_no_deeds(self):
        grove = sample_grove()
        for value in spoilt(("hang", ("p", 1), ("q", 0))) + [("hang", ("p", 0), ("q", 0))]:
            with self.assertRaises(BadDeed) as caught:
                touched(grove, value)
            self.assertIs(type(caught.exception.number), int)
            self.assertEqual(caught.exception.number, 0)


if __name__ == "__main__":
    unittest.main()
