"""bushcoins.deeds: S3.2 to S3.5, S3.7 and the example S3.8."""

import unittest

from bushcoins.bags import Bag
from bushcoins.books import Book
from bushcoins.deeds import all_deeds, canonical, done, hang_count, taken_back
from bushcoins.errors import BadDeed
from bushcoins.groves import Grove
from tests.lands import (
    PLAIN_BOOK, any_deed, chain_grove, countries, forked_grove, large_grove, mixed_grove, spoilt, twin_roots_grove,
)
from tests.oracles import Surgery
from tests.samples import Case, random_source, sample_grove

# A grove of which each joint of a stretch has branches aside, and its places by short names.
FIVE_BAG = (
    ("k", "t"), ("l", "t"), ("m", "t"), ("n", "t"), ("o", "b"),
    ("v", "z"), ("w", "z"), ("x", "z"), ("y", "z"), ("z", "z"),
)
FIVE_BUSHES = (("k", ("l", ("v",), ("m", ("o", ("w",)), ("x",))), ("n", ("y",), ("z",))),)


def five_grove():
    return Grove(Bag(Book(PLAIN_BOOK), FIVE_BAG), ("c",), FIVE_BUSHES)


# Of each case: the deed, and the bush behind it; made by hand from the words of S3.3.
FIVE = (
    # Two stretches apart, each with a branch aside.
    (1, ("stretch", ("k", 0), ("l", 1), ("k", 1), ("n", 0)),
     ("k", ("n", ("m", ("o", ("w",)), ("x",)), ("z",)), ("l", ("v",), ("y",)))),
    # The second one far below the end of the first one.
    (1, ("stretch", ("k", 0), ("l", 1), ("m", 0), ("o", 0)),
     ("k", ("o", ("m", ("l", ("v",), ("w",)), ("x",))), ("n", ("y",), ("z",)))),
    # The second one directly below the first one.
    (2, ("stretch", ("k", 0), ("l", 1), ("l", 1), ("m", 0)),
     ("k", ("m", ("l", ("v",), ("o", ("w",))), ("x",)), ("n", ("y",), ("z",)))),
    # The first one directly below the second one.
    (3, ("stretch", ("l", 1), ("m", 0), ("k", 0), ("l", 1)),
     ("k", ("m", ("l", ("v",), ("o", ("w",))), ("x",)), ("n", ("y",), ("z",)))),
    # The first one is empty: the other one moves to it.
    (4, ("stretch", ("n", 1), ("n", 1), ("l", 1), ("m", 0)),
     ("k", ("l", ("v",), ("o", ("w",))), ("n", ("y",), ("m", ("z",), ("x",))))),
    # The second one is empty.
    (5, ("stretch", ("k", 0), ("m", 0), ("n", 0), ("n", 0)),
     ("k", ("o", ("w",)), ("n", ("l", ("v",), ("m", ("y",), ("x",))), ("z",)))),
)


def turned(deed):
    """The other tuple of a deed."""
    half = len(deed) // 2 + 1
    return deed[:1] + deed[half:] + deed[1:half]


class TestDone(Case):
    def test_the_example(self):
        grove = sample_grove()
        self.assertEqual(
            done(grove, ("hang", ("p", 1), ("q", 0))).bushes(), [("p", ("q", ("y",)), ("r", ("z",)))]
        )
        self.assertEqual(
            done(grove, ("stretch", ("p", 0), ("q", 0), ("p", 1), ("p", 1))).bushes(),
            [("p", ("r", ("z",)), ("q", ("y",)))],
        )
        self.assertEqual(
            done(grove, ("stretch", ("p", 0), ("q", 0), ("q", 0), ("r", 0))).bushes(),
            [("p", ("r", ("q", ("z",))), ("y",))],
        )

    def test_each_of_the_five_cases_in_both_tuples(self):
        grove = five_grove()
        surgery = Surgery(grove.bag(), grove.roots(), grove.bushes())
        mirrored = {1: 1, 2: 3, 3: 2, 4: 5, 5: 4}
        for case, deed, bush in FIVE:
            self.assertEqual(surgery.case(deed), case)
            self.assertEqual(surgery.case(turned(deed)), mirrored[case])
            self.assertEqual(done(grove, deed).bushes(), [bush], deed)
            self.assertEqual(done(grove, turned(deed)).bushes(), [bush], deed)

    def test_all_deeds_of_small_groves(self):
        for country in countries():
            for bushes, grove in country.groves.items():
                surgery = country.surgeries[bushes]
                for deed in surgery.every_deed():
                    self.assertEqual(tuple(done(grove, deed).bushes()), surgery.done(deed), (bushes, deed))

    def test_deeds_of_large_groves(self):
        draw = random_source(32)
        met = {}
        for _ in range(15):
            grove = large_grove(draw)
            for _ in range(12):
                deed = any_deed(draw, grove)
                surgery = Surgery(grove.bag(), grove.roots(), grove.bushes())
                met[surgery.case(deed)] = True
                behind = done(grove, deed)
                self.assertEqual(tuple(behind.bushes()), surgery.done(deed))
                self.assertEqual(done(grove, turned(deed)), behind)
                grove = behind
        self.assertGreaterEqual(len(met), 4)

    def test_bag_and_roots_stay(self):
        grove = mixed_grove()
        for deed in all_deeds(grove):
            behind = done(grove, deed)
            self.assertIs(type(behind), Grove)
            self.assertEqual(behind.bag(), grove.bag())
            self.assertEqual(behind.roots(), grove.roots())
            self.assert_unequal_objects(behind, grove)
        self.assertEqual(grove, mixed_grove())

    def test_apart_two_deeds_of_one_coin_lead_there_too(self):
        """S3.3, the words behind the five cases."""
        met = {}
        for country in countries():
            for bushes, grove in country.groves.items():
                surgery = country.surgeries[bushes]
                for deed in surgery.every_deed():
                    if deed[0] == "hang" or not surgery.is_apart(deed[1], deed[3]):
                        continue
                    _, s, t, u, v = deed
                    case = surgery.case(deed)
                    met[case] = True
                    second = {1: ("hang", t, v), 4: ("hang", v, u), 5: ("hang", t, s)}[case]
                    between = done(grove, ("hang", s, u))
                    self.assertEqual(done(between, second), done(grove, deed), (bushes, deed))
                    paid = [surgery.colour(s), surgery.colour(second[1])]
                    self.assertEqual(sorted(paid), sorted(surgery.paid(deed)))
        self.assertEqual(sorted(met), [1, 4, 5])

    def test_values_that_are_no_deeds(self):
        grove = sample_grove()
        for deed in (("hang", ("p", 1), ("q", 0)), ("stretch", ("p", 0), ("q", 0), ("q", 0), ("r", 0))):
            for value in spoilt(deed):
                for call in (done, taken_back):
                    with self.assertRaises(BadDeed) as caught:
                        call(grove, value)
                    self.assertIs(type(caught.exception.number), int)
                    self.assertEqual(caught.exception.number, 0)

    def test_deeds_that_can_not_be_done(self):
        grove = sample_grove()
        for value in (
            ("hang", ("p", 0), ("q", 0)),
            ("hang", ("p", 0), ("p", 0)),
            ("hang", ("root", 0), ("p", 0)),
            ("stretch", ("p", 0), ("p", 0), ("p", 1), ("p", 1)),
            ("stretch", ("p", 0), ("r", 0), ("q", 0), ("r", 0)),
        ):
            for call in (done, taken_back):
                with self.assertRaises(BadDeed):
                    call(grove, value)


class TestTakenBack(Case):
    def test_all_deeds_of_small_groves(self):
        for country in countries():
            for bushes, grove in country.groves.items():
                surgery = country.surgeries[bushes]
                for deed in surgery.every_deed():
                    self.check_back(grove, surgery, deed)

    def check_back(self, grove, surgery, deed):
        back = taken_back(grove, deed)
        behind = done(grove, deed)
        after = Surgery(behind.bag(), behind.roots(), behind.bushes())
        self.assertTrue(after.can(back), deed)
        self.assertTrue(after.is_canonical(back))
        self.assertEqual(done(behind, back), grove)
        self.assertEqual(sorted(after.paid(back)), sorted(surgery.paid(deed)))
        told = self.told_back(surgery, deed)
        self.assertIn(back, (told, turned(told)))
        self.assertEqual(taken_back(grove, turned(deed)), back)

    def told_back(self, surgery, deed):
        """The deed that S3.5 tells."""
        case = surgery.case(deed)
        if case == 0:
            return deed
        _, s, t, u, v = deed
        return ("stretch",) + {
            1: (s, v, u, t), 2: (s, v, v, t), 3: (u, t, t, v), 4: (s, v, u, u), 5: (u, t, s, s),
        }[case]

    def test_each_of_the_five_cases(self):
        grove = five_grove()
        surgery = Surgery(grove.bag(), grove.roots(), grove.bushes())
        for _, deed, _ in FIVE:
            self.check_back(grove, surgery, deed)
            self.check_back(grove, surgery, turned(deed))
        # By hand: the second case, in its canonical form.
        self.assertEqual(
            taken_back(grove, ("stretch", ("k", 0), ("l", 1), ("l", 1), ("m", 0))),
            ("stretch", ("k", 0), ("m", 0), ("m", 0), ("l", 1)),
        )
        self.assertEqual(taken_back(grove, ("hang", ("n", 0), ("k", 0))), ("hang", ("k", 0), ("n", 0)))

    def test_deeds_of_large_groves(self):
        draw = random_source(33)
        for _ in range(8):
            grove = large_grove(draw)
            surgery = Surgery(grove.bag(), grove.roots(), grove.bushes())
            for _ in range(6):
                self.check_back(grove, surgery, any_deed(draw, grove))


class TestCanonical(Case):
    def test_both_tuples_of_all_deeds(self):
        for country in countries():
            for bushes, grove in country.groves.items():
                surgery = country.surgeries[bushes]
                for deed in surgery.every_deed():
                    right = deed if surgery.is_canonical(deed) else turned(deed)
                    told = canonical(grove.bag(), grove.roots(), deed)
                    self.assertEqual(told, right)
                    self.assertIs(type(told), tuple)
                    self.assertEqual(canonical(grove.bag(), list(grove.roots()), turned(deed)), right)

    def test_the_order_is_that_of_places_whichever_hangs_above(self):
        # The order of the bag is a, b, c, d; in the bush they hang as d, c, b, a.
        grove = chain_grove(["d", "c", "b", "a"])
        bag, roots = grove.bag(), grove.roots()
        low = ("stretch", ("b", 0), ("a", 0), ("d", 0), ("c", 0))
        self.assertEqual(canonical(bag, roots, turned(low)), low)
        self.assertEqual(canonical(bag, roots, low), low)
        root = ("stretch", ("root", 0), ("d", 0), ("b", 0), ("a", 0))
        self.assertEqual(canonical(bag, roots, turned(root)), root)


class TestAllDeeds(Case):
    def test_all_small_groves(self):
        for country in countries():
            for bushes, grove in country.groves.items():
                right = country.surgeries[bushes].canonical_deeds()
                self.assertEqual(all_deeds(grove), right)
                hangs = [deed for deed in right if deed[0] == "hang"]
                self.assertEqual(hang_count(grove), len(hangs))

    def test_each_leads_to_another_grove(self):
        """S3.4: other ones than the grove itself, and different ones."""
        for country in countries():
            for bushes, grove in country.groves.items():
                met = {bushes: None}
                for deed in all_deeds(grove):
                    behind = tuple(done(grove, deed).bushes())
                    self.assertNotIn(behind, met, (deed, met.get(behind)))
                    met[behind] = deed

    def test_the_example(self):
        p0, p1, q0, r0 = ("p", 0), ("p", 1), ("q", 0), ("r", 0)
        self.assertEqual(all_deeds(sample_grove()), [
            ("hang", p0, p1),
            ("hang", p1, q0),
            ("hang", p1, r0),
            ("stretch", p0, q0, p1, p1),
            ("stretch", p0, q0, q0, r0),
            ("stretch", p0, r0, p1, p1),
            ("stretch", p1, p1, q0, r0),
        ])

    def test_a_grove_of_twelve_joints(self):
        draw = random_source(34)
        bag = Bag(Book(PLAIN_BOOK), [(f"t{k}", "t") for k in range(3)] + [(f"b{k}", "b") for k in range(4)]
                  + [(f"z{k}", "z") for k in range(5)])
        bushes = (("t0", ("b0", ("t1", ("z0",), ("b1", ("z1",)))), ("t2", ("b2", ("b3", ("z2",))), ("z3",))), ("z4",))
        grove = Grove(bag, ("c", "c"), bushes)
        for _ in range(3):
            surgery = Surgery(bag, grove.roots(), grove.bushes())
            self.assertEqual(all_deeds(grove), surgery.canonical_deeds())
            grove = done(grove, draw.choice(all_deeds(grove)))

    def test_groves_without_deeds(self):
        empty = Grove(Bag(Book(()), ()), (), ())
        self.assertEqual(all_deeds(empty), [])
        self.assertEqual(hang_count(empty), 0)
        bag = Bag(Book([("a", "red", ("blue",)), ("z", "blue", ())]), [("a", "a"), ("z", "z")])
        grove = Grove(bag, ("red",), (("a", ("z",)),))
        self.assertEqual(all_deeds(grove), [])
        self.assertEqual(hang_count(grove), 0)

    def test_chains_have_none_of_one_coin(self):
        grove = chain_grove(["a", "b", "c"])
        self.assertEqual(hang_count(grove), 0)
        self.assertEqual([deed[0] for deed in all_deeds(grove)], ["stretch"] * 5)

    def test_hang_count_of_large_groves(self):
        """S3.7, by the words of the point."""
        draw = random_source(35)
        for _ in range(20):
            grove = large_grove(draw)
            surgery = Surgery(grove.bag(), grove.roots(), grove.bushes())
            right = 0
            for k, s in enumerate(surgery.places):
                for t in surgery.places[k + 1:]:
                    if surgery.colour(s) == surgery.colour(t):
                        right += 0 if surgery.is_above(s, t) or surgery.is_above(t, s) else 1
            self.assertEqual(hang_count(grove), right)
        self.assertEqual(hang_count(twin_roots_grove()), 10 - 2)

    def test_hang_count_of_a_great_grove(self):
        many = 700
        joints = [(f"z{k}", "z") for k in range(many)]
        grove = Grove(Bag(Book(PLAIN_BOOK), joints), ("c",) * many, tuple((name,) for name, _ in joints))
        self.assertEqual(hang_count(grove), many * (many - 1) // 2)

    def test_the_list_is_new(self):
        self.assert_new(lambda: all_deeds(forked_grove()))
        grove = sample_grove()
        self.assert_new(lambda: all_deeds(grove))
        self.assertEqual(grove, sample_grove())


if __name__ == "__main__":
    unittest.main()
