"""bushcoins.goals: S10.5."""

import unittest

from bushcoins.coins import coins, way
from bushcoins.deeds import done
from bushcoins.errors import UnlikeGroves
from bushcoins.goals import barred_nails, left_after, nearest, waste
from tests.lands import any_deed, countries, large_grove, unlike_groves
from tests.samples import Case, random_source, sample_grove

HANG = ("hang", ("p", 1), ("q", 0))
MOVE = ("stretch", ("p", 0), ("q", 0), ("p", 1), ("p", 1))


def any_script(draw, grove, many):
    """A script of about so many deeds, and the groves through which it leads."""
    script, groves = [], [grove]
    for _ in range(many):
        deed = any_deed(draw, groves[-1])
        if deed is not None:
            script.append(deed)
            groves.append(done(groves[-1], deed))
    return script, groves


def cost(script):
    return sum(1 if deed[0] == "hang" else 2 for deed in script)


class TestScripts(Case):
    def test_against_a_search(self):
        draw = random_source(281)
        for country in countries():
            groves = list(country.groves.values())
            for _ in range(12):
                f, g = draw.choice(groves), draw.choice(groves)
                costs = country.land.costs(tuple(g.bushes()))
                script, through = any_script(draw, f, draw.randrange(5))
                left = [costs[tuple(h.bushes())] for h in through]
                for told in (script, tuple(script)):
                    self.assertEqual(left_after(f, g, told), left)
                    self.assertEqual(waste(f, g, told), cost(script) - left[0] + left[-1])
                self.assertIs(type(waste(f, g, script)), int)
                self.assertEqual(waste(f, g, script) % 2, 0)
                self.assertGreaterEqual(waste(f, g, script), 0)

    def test_fewest_ways_waste_nothing(self):
        draw = random_source(282)
        f = large_grove(draw)
        g = any_script(draw, f, 20)[1][-1]
        script = way(f, g)
        for k in range(len(script) + 1):
            self.assertEqual(waste(f, g, script[:k]), 0)
            self.assertEqual(waste(f, f, script[:k]), 2 * cost(script[:k]))
        left = left_after(f, g, script)
        self.assertEqual((left[0], left[-1], len(left)), (coins(f, g), 0, len(script) + 1))

    def test_by_hand(self):
        f = sample_grove()
        g = done(f, HANG)
        self.assertEqual(left_after(f, g, [HANG]), [1, 0])
        self.assertEqual(left_after(f, g, [HANG, HANG]), [1, 0, 1])
        self.assertEqual(left_after(f, g, []), [1])
        self.assertEqual([waste(f, g, [HANG] * k) for k in range(5)], [0, 0, 2, 2, 4])
        self.assertEqual(left_after(f, f, [MOVE]), [0, 2])
        self.assertEqual(waste(f, f, [MOVE]), 4)
        self.assert_new(lambda: left_after(f, g, [HANG, HANG]))


class TestNails(Case):
    def test_against_tables(self):
        draw = random_source(283)
        for country in countries():
            groves = list(country.groves.values())
            for _ in range(20):
                f, g = draw.choice(groves), draw.choice(groves)
                one, other = dict(f.table()), dict(g.table())
                order = list(one)
                places = draw.sample(order, draw.randrange(len(order) + 1))
                right = [place for place in order if place in places and one[place] != other[place]]
                self.assertEqual(barred_nails(f, g, places), right)
                self.assertEqual(barred_nails(f, g, tuple(places)), right)
                # Also with a place that is told twice.
                self.assertEqual(barred_nails(f, g, places + places), right)
                self.assertEqual(barred_nails(f, f, places), [])

    def test_by_hand(self):
        f = sample_grove()
        g = done(f, HANG)
        places = [("q", 0), ("root", 0), ("p", 1), ("p", 0)]
        self.assertEqual(barred_nails(f, g, places), [("p", 1), ("q", 0)])
        self.assertEqual(barred_nails(f, g, []), [])
        self.assert_new(lambda: barred_nails(f, g, places))
        self.assert_new(lambda: barred_nails(f, g, []))
        self.assertEqual(places, [("q", 0), ("root", 0), ("p", 1), ("p", 0)])


class TestNearest(Case):
    def test_against_a_search(self):
        draw = random_source(284)
        ties = 0
        for country in countries():
            groves = list(country.groves.values())
            for _ in range(20):
                f = draw.choice(groves)
                costs = country.land.costs(tuple(f.bushes()))
                goals = [draw.choice(groves) for _ in range(draw.randrange(1, 6))]
                left = [costs[tuple(goal.bushes())] for goal in goals]
                self.assertEqual(nearest(f, goals), left.index(min(left)))
                self.assertEqual(nearest(f, tuple(goals)), left.index(min(left)))
                ties += left.count(min(left)) > 1
        self.assertGreater(ties, 5)
        self.assertIs(type(nearest(sample_grove(), [sample_grove()])), int)
        goals = [done(sample_grove(), HANG), done(sample_grove(), MOVE)]
        self.assertEqual(nearest(sample_grove(), goals), 0)
        self.assertEqual(nearest(sample_grove(), goals[::-1]), 1)
        self.assertEqual(nearest(sample_grove(), goals[::-1] + [sample_grove(), sample_grove()]), 2)


class TestUnlikeGroves(Case):
    def test_they_are_refused_first(self):
        for one, other in unlike_groves():
            for call in (
                lambda: left_after(one, other, []), lambda: waste(one, other, []), lambda: barred_nails(one, other, []),
                lambda: barred_nails(one, other, [("root", 0)]), lambda: nearest(one, [other]),
                # Ahead of a script that can not be done.
                lambda: left_after(one, other, [None]), lambda: waste(one, other, [None]),
                lambda: nearest(one, [one, other]), lambda: nearest(one, [other, one]),
                lambda: nearest(one, [one] * 3 + [other]),
            ):
                with self.assertRaises(UnlikeGroves) as caught:
                    call()
                self.assertIs(type(caught.exception), UnlikeGroves)


if __name__ == "__main__":
    unittest.main()
