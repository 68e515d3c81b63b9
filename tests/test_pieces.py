"""bushcoins.pieces: S3.1, S3.2 and the conditions of S3.3."""

import itertools
import unittest

from bushcoins.deeds import all_deeds
from bushcoins.groves import Grove
from bushcoins.pieces import colours_of, is_deed, is_stretch, joints_of
from tests.lands import any_deed, countries, forked_grove, large_grove, mixed_grove, spoilt
from tests.oracles import Surgery
from tests.samples import Case, no_places, random_source, sample_grove, wide_grove


class TestStretches(Case):
    def test_all_pairs_of_places_of_small_groves(self):
        for country in countries():
            for bushes, grove in country.groves.items():
                surgery = country.surgeries[bushes]
                for s, t in itertools.product(surgery.places, repeat=2):
                    self.assertIs(is_stretch(grove, s, t), surgery.is_stretch(s, t), (bushes, s, t))
                    if surgery.is_stretch(s, t):
                        self.assertEqual(joints_of(grove, s, t), surgery.joints(s, t))
                        self.assertEqual(colours_of(grove, s, t), surgery.colours(s, t))

    def test_the_example(self):
        grove = sample_grove()
        self.assertIs(is_stretch(grove, ("p", 0), ("r", 0)), True)
        self.assertIs(is_stretch(grove, ("r", 0), ("p", 0)), False)
        self.assertIs(is_stretch(grove, ("p", 1), ("r", 0)), False)
        self.assertIs(is_stretch(grove, ("p", 1), ("p", 1)), True)
        self.assertEqual(joints_of(grove, ("p", 0), ("r", 0)), ["q", "r"])
        self.assertEqual(joints_of(grove, ("root", 0), ("q", 0)), ["p", "q", "y"])
        self.assertEqual(colours_of(grove, ("root", 0), ("q", 0)), ("red", "blue"))

    def test_joints_aside_from_the_way_in_the_order_of_a_walk(self):
        grove = wide_grove()
        self.assertEqual(joints_of(grove, ("root", 0), ("u", 1)), ["t", "l2", "u", "l5", "l3", "l4"])
        self.assertEqual(joints_of(grove, ("t", 1), ("w", 0)), ["u", "l5", "w", "l3"])
        self.assertEqual(joints_of(grove, ("t", 1), ("u", 2)), ["u", "l5", "w", "l1"])

    def test_an_empty_stretch_has_no_joints_and_its_colour_twice(self):
        grove = wide_grove()
        for place, _ in grove.table():
            self.assertEqual(joints_of(grove, place, place), [])
            self.assertEqual(len(colours_of(grove, place, place)), 2)
        self.assertEqual(colours_of(grove, ("t", 0), ("t", 0)), ("leaf", "leaf"))
        self.assertEqual(colours_of(grove, ("t", 1), ("u", 2)), ("wood", "leaf"))
        self.assertIs(type(colours_of(grove, ("t", 1), ("u", 2))), tuple)

    def test_values_that_are_no_places(self):
        grove = sample_grove()
        for value in no_places("q"):
            self.assertIs(is_stretch(grove, value, ("q", 0)), False)
            self.assertIs(is_stretch(grove, ("q", 0), value), False)
            self.assertIs(is_stretch(grove, ("root", 0), value), False)
            self.assertIs(is_stretch(grove, value, value), False)

    def test_joints_are_a_new_list(self):
        grove = sample_grove()
        self.assert_new(lambda: joints_of(grove, ("p", 0), ("r", 0)))
        self.assert_new(lambda: joints_of(grove, ("p", 0), ("p", 0)))


class TestIsDeed(Case):
    def test_all_tuples_of_places_of_small_groves(self):
        for country in countries():
            for bushes in list(country.groves)[:6]:
                grove = country.groves[bushes]
                surgery = country.surgeries[bushes]
                places = surgery.places
                for told in itertools.product(places, repeat=2):
                    self.assertIs(is_deed(grove, ("hang", *told)), surgery.can(("hang", *told)), told)
                for told in itertools.product(places, repeat=4):
                    self.assertIs(is_deed(grove, ("stretch", *told)), surgery.can(("stretch", *told)), told)

    def test_both_tuples_of_all_deeds(self):
        for country in countries():
            for bushes, grove in country.groves.items():
                for deed in country.surgeries[bushes].every_deed():
                    self.assertIs(is_deed(grove, deed), True)

    def test_deeds_of_large_groves(self):
        draw = random_source(31)
        for _ in range(12):
            grove = large_grove(draw)
            surgery = Surgery(grove.bag(), grove.roots(), grove.bushes())
            for _ in range(20):
                deed = any_deed(draw, grove)
                self.assertIs(is_deed(grove, deed), True)
                told = ("stretch", *[draw.choice(surgery.places) for _ in range(4)])
                self.assertIs(is_deed(grove, told), surgery.can(told))

    def test_one_coin(self):
        grove = sample_grove()
        self.assertIs(is_deed(grove, ("hang", ("p", 1), ("q", 0))), True)
        self.assertIs(is_deed(grove, ("hang", ("q", 0), ("p", 1))), True)
        # Not apart: the same place, or one above the other.
        self.assertIs(is_deed(grove, ("hang", ("p", 1), ("p", 1))), False)
        self.assertIs(is_deed(grove, ("hang", ("p", 0), ("q", 0))), False)
        self.assertIs(is_deed(grove, ("hang", ("r", 0), ("p", 0))), False)
        # Apart, but of two colours.
        grove = mixed_grove()
        self.assertIs(is_deed(grove, ("hang", ("root", 1), ("a1", 1))), False)
        self.assertIs(is_deed(grove, ("hang", ("root", 1), ("a1", 0))), True)

    def test_two_coins(self):
        grove = sample_grove()
        p0, p1, q0, r0, root = ("p", 0), ("p", 1), ("q", 0), ("r", 0), ("root", 0)
        for told in ((p0, q0, p1, p1), (p1, p1, p0, q0), (p0, q0, q0, r0), (q0, r0, p0, q0)):
            self.assertIs(is_deed(grove, ("stretch", *told)), True, told)
        for told in (
            (p0, p0, p1, p1),    # both empty
            (p0, p0, p0, p0),
            (p0, q0, r0, r0),    # one empty, and one of s and u above the other
            (r0, r0, p0, q0),
            (p0, q0, q0, q0),
            (p0, q0, p0, p0),
            (p0, q0, p0, q0),    # a joint in common
            (p0, r0, q0, r0),
            (p0, q0, p0, r0),
            (q0, p0, p1, p1),    # no stretch
            (p0, p1, q0, r0),
            (root, p0, q0, r0),  # unlike colours
            (root, p0, p1, p1),
            (root, p0, root, p1),
        ):
            self.assertIs(is_deed(grove, ("stretch", *told)), False, told)

    def test_equal_colours_at_one_end_are_not_enough(self):
        grove = mixed_grove()
        # From blue to red, and empty at blue; from red to blue, and from red to red.
        self.assertIs(is_deed(grove, ("stretch", ("a1", 0), ("b1", 0), ("root", 1), ("root", 1))), False)
        self.assertIs(is_deed(grove, ("stretch", ("root", 0), ("a1", 0), ("b1", 0), ("a2", 1))), False)
        self.assertIs(is_deed(grove, ("stretch", ("root", 0), ("a1", 0), ("b1", 0), ("a2", 0))), True)

    def test_values_of_every_kind(self):
        grove = sample_grove()
        for deed in (
            ("hang", ("p", 1), ("q", 0)),
            ("stretch", ("p", 0), ("q", 0), ("p", 1), ("p", 1)),
            ("stretch", ("p", 0), ("q", 0), ("q", 0), ("r", 0)),
        ):
            self.assertIs(is_deed(grove, deed), True)
            for value in spoilt(deed):
                self.assertIs(is_deed(grove, value), False, value)

    def test_places_of_another_grove_are_none(self):
        other = Grove(mixed_grove().bag(), ("red", "blue"), mixed_grove().bushes())
        for deed in all_deeds(forked_grove()):
            self.assertIs(is_deed(other, deed), False)


if __name__ == "__main__":
    unittest.main()
