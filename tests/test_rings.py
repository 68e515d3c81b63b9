"""bushcoins.rings: S4.1."""

import unittest

from bushcoins.bags import Bag
from bushcoins.books import Book
from bushcoins.deeds import done
from bushcoins.errors import UnlikeGroves
from bushcoins.groves import Grove
from bushcoins.rings import difference, right_places, rings
from tests.lands import any_deed, chain_grove, countries, large_grove, unlike_groves
from tests.oracles import table_of
from tests.samples import Case, random_source, sample_grove


def led(f, g):
    """The difference by the words of the point."""
    before = table_of(f.bushes())
    after = {name: place for place, name in table_of(g.bushes()).items()}
    return {place: after[before[place]] for place in before}


class TestDifference(Case):
    def check(self, f, g):
        leads = led(f, g)
        places = [place for place, _ in f.table()]
        self.assertEqual(difference(f, g), [(place, leads[place]) for place in places])
        self.assertEqual(right_places(f, g), [place for place in places if leads[place] == place])
        told = rings(f, g)
        for ring in told:
            self.assertIs(type(ring), tuple)
            self.assertEqual(ring[0], min(ring, key=places.index))
            for k, place in enumerate(ring):
                self.assertEqual(leads[place], ring[(k + 1) % len(ring)])
        self.assertEqual(sorted(place for ring in told for place in ring), sorted(places))
        firsts = [places.index(ring[0]) for ring in told]
        self.assertEqual(firsts, sorted(firsts))

    def test_all_pairs_of_small_groves(self):
        for country in countries():
            for one, other in country.pairs(3):
                self.check(country.groves[one], country.groves[other])

    def test_large_groves(self):
        draw = random_source(51)
        for _ in range(10):
            f = large_grove(draw)
            g = f
            for _ in range(15):
                g = done(g, any_deed(draw, g))
            self.check(f, g)
            self.check(g, f)

    def test_by_hand(self):
        f = chain_grove(["a", "b", "c", "d"])
        g = chain_grove(["b", "c", "a", "d"])
        a, b, c, d, root = ("a", 0), ("b", 0), ("c", 0), ("d", 0), ("root", 0)
        self.assertEqual(difference(f, g), [(root, c), (a, root), (b, b), (c, a), (d, d)])
        self.assertEqual(rings(f, g), [(root, c, a), (b,), (d,)])
        self.assertEqual(right_places(f, g), [b, d])
        # The other way round each ring is gone through the other way round.
        self.assertEqual(difference(g, f), [(root, a), (a, c), (b, b), (c, root), (d, d)])
        self.assertEqual(rings(g, f), [(root, a, c), (b,), (d,)])
        self.assertEqual(right_places(g, f), [b, d])

    def test_a_grove_and_itself(self):
        for f in (sample_grove(), chain_grove(["a", "b"])):
            places = [place for place, _ in f.table()]
            self.assertEqual(difference(f, f), [(place, place) for place in places])
            self.assertEqual(rings(f, f), [(place,) for place in places])
            self.assertEqual(right_places(f, f), places)

    def test_the_empty_grove(self):
        f = Grove(Bag(Book(()), ()), (), ())
        self.assertEqual(difference(f, f), [])
        self.assertEqual(rings(f, f), [])
        self.assertEqual(right_places(f, f), [])

    def test_unlike_groves(self):
        for one, other in unlike_groves():
            for call in (difference, rings, right_places):
                with self.assertRaises(UnlikeGroves) as caught:
                    call(one, other)
                self.assertIs(type(caught.exception), UnlikeGroves)

    def test_lists_are_new(self):
        f, g = chain_grove(["a", "b", "c"]), chain_grove(["b", "c", "a"])
        for call in (difference, rings, right_places):
            self.assert_new(lambda: call(f, g))
        self.assertEqual(f, chain_grove(["a", "b", "c"]))
        self.assertEqual(g, chain_grove(["b", "c", "a"]))


if __name__ == "__main__":
    unittest.main()
