"""bushcoins.scripts: S3.6."""

import unittest

from bushcoins.bags import Bag
from bushcoins.books import Book
from bushcoins.deeds import all_deeds, done
from bushcoins.errors import BadDeed
from bushcoins.groves import Grove
from bushcoins.scripts import first_bad, price, steps, turned_back, walked
from tests.lands import any_deed, countries, large_grove, mixed_grove, spoilt
from tests.oracles import Surgery
from tests.samples import Case, anything, random_source, sample_bag, sample_grove

HANG = ("hang", ("p", 1), ("q", 0))
# Behind HANG: p has q with y, and r with z.
SECOND = ("stretch", ("p", 1), ("r", 0), ("p", 0), ("p", 0))
THIRD = ("hang", ("r", 0), ("p", 1))
SCRIPT = [HANG, SECOND, THIRD]


def random_script(draw, grove, many):
    """Deeds that can be done one after another, some of them in the other tuple, and the bushes behind each."""
    script = []
    bushes = [tuple(grove.bushes())]
    while len(script) < many:
        surgery = Surgery(grove.bag(), grove.roots(), bushes[-1])
        deed = any_deed(draw, Grove(grove.bag(), grove.roots(), bushes[-1]))
        script.append(deed)
        bushes.append(surgery.done(deed))
    return script, bushes


class TestSteps(Case):
    def test_by_hand(self):
        grove = sample_grove()
        told = steps(grove, SCRIPT)
        self.assertIs(type(told), list)
        self.assertEqual([each.bushes() for each in told], [
            [("p", ("q", ("r", ("z",))), ("y",))],
            [("p", ("q", ("y",)), ("r", ("z",)))],
            [("p", ("r", ("q", ("y",))), ("z",))],
            [("p", ("r", ("z",)), ("q", ("y",)))],
        ])
        self.assertEqual(walked(grove, SCRIPT), told[-1])
        self.assertEqual(told[0], grove)

    def test_empty_scripts(self):
        grove = sample_grove()
        for script in ([], ()):
            self.assertEqual(walked(grove, script), grove)
            self.assertEqual(steps(grove, script), [grove])
            self.assertEqual(turned_back(grove, script), [])
            self.assertIsNone(first_bad(grove, script))

    def test_random_scripts_as_lists_and_tuples(self):
        draw = random_source(41)
        for _ in range(10):
            grove = large_grove(draw)
            script, bushes = random_script(draw, grove, 12)
            known = list(script)
            for told in (script, tuple(script)):
                self.assertEqual([tuple(each.bushes()) for each in steps(grove, told)], bushes)
                self.assertEqual(tuple(walked(grove, told).bushes()), bushes[-1])
                self.assertIsNone(first_bad(grove, told))
            self.assertEqual(script, known)

    def test_a_bad_member_at_each_position(self):
        draw = random_source(42)
        for country in countries():
            for _ in range(4):
                grove = draw.choice(list(country.groves.values()))
                script, _ = random_script(draw, grove, 5)
                for k in range(6):
                    for value in (None, ("hang",), [], ("hang", ("root", 0), ("root", 0)), list(script[0])):
                        for told in (script[:k] + [value] + script[k:], script[:k] + [value]):
                            self.check_bad(grove, told, k)
                            self.check_bad(grove, tuple(told), k)

    def check_bad(self, grove, script, k):
        self.assertIs(type(first_bad(grove, script)), int)
        self.assertEqual(first_bad(grove, script), k)
        for call in (walked, steps, turned_back):
            with self.assertRaises(BadDeed) as caught:
                call(grove, script)
            self.assertIs(type(caught.exception), BadDeed)
            self.assertIs(type(caught.exception.number), int)
            self.assertEqual(caught.exception.number, k)

    def test_a_deed_is_done_where_the_others_have_led(self):
        grove = sample_grove()
        # SECOND can not be done at the beginning, nor behind itself, and THIRD not behind HANG.
        self.check_bad(grove, [SECOND], 0)
        self.check_bad(grove, [HANG, THIRD], 1)
        self.check_bad(grove, [HANG, SECOND, THIRD, SECOND], 3)
        self.assertIsNone(first_bad(grove, [HANG, HANG, HANG]))
        self.assertEqual(walked(grove, [HANG, HANG]), grove)

    def test_members_of_every_kind(self):
        grove = sample_grove()
        for value in spoilt(HANG) + spoilt(("stretch", ("p", 0), ("q", 0), ("p", 1), ("p", 1))):
            self.assertEqual(first_bad(grove, [value]), 0)
        for value in spoilt(SECOND):
            self.assertEqual(first_bad(grove, [HANG, value, THIRD]), 1)
            with self.assertRaises(BadDeed) as caught:
                walked(grove, (HANG, value))
            self.assertEqual(caught.exception.number, 1)

    def test_first_bad_of_anything(self):
        grove = sample_grove()
        for value in anything():
            if type(value) in (list, tuple) and not value:
                self.assertIsNone(first_bad(grove, value))
            else:
                self.assertEqual(first_bad(grove, value), 0)
                self.assertIs(type(first_bad(grove, value)), int)
        self.assertEqual(first_bad(grove, {0: HANG}), 0)
        self.assertEqual(first_bad(grove, HANG), 0)

    def test_lists_are_new(self):
        grove = sample_grove()
        self.assert_new(lambda: steps(grove, SCRIPT))
        self.assert_new(lambda: turned_back(grove, SCRIPT))
        self.assert_new(lambda: price(grove.bag(), grove.roots(), SCRIPT))
        script = []
        self.assertIsNot(turned_back(grove, script), script)
        self.assertEqual(grove, sample_grove())


class TestTurnedBack(Case):
    def test_it_leads_back_for_the_same_price(self):
        draw = random_source(43)
        for _ in range(8):
            grove = large_grove(draw)
            script, bushes = random_script(draw, grove, 10)
            bag, roots = grove.bag(), grove.roots()
            back = turned_back(grove, script)
            self.assertEqual(len(back), len(script))
            end = walked(grove, script)
            self.assertEqual([tuple(each.bushes()) for each in steps(end, back)], bushes[::-1])
            self.assertEqual(price(bag, roots, back), price(bag, roots, script))
            for deed, other in zip(back, bushes[::-1]):
                self.assertTrue(Surgery(bag, roots, other).is_canonical(deed))
            # Turned back twice it is the script itself, with canonical deeds.
            twice = turned_back(end, back)
            self.assertEqual([tuple(each.bushes()) for each in steps(grove, twice)], bushes)
            for deed, first, other in zip(twice, script, bushes):
                surgery = Surgery(bag, roots, other)
                self.assertTrue(surgery.is_canonical(deed))
                self.assertEqual(surgery.is_canonical(first), deed == first)

    def test_by_hand(self):
        grove = sample_grove()
        self.assertEqual(turned_back(grove, SCRIPT), [
            ("hang", ("p", 1), ("r", 0)),
            ("stretch", ("p", 0), ("r", 0), ("p", 1), ("p", 1)),
            HANG,
        ])


class TestPrice(Case):
    def test_by_hand(self):
        bag = sample_bag()
        self.assertEqual(price(bag, ["red"], SCRIPT), [("red", 0), ("blue", 4)])
        self.assertEqual(price(bag, ("red",), tuple(SCRIPT[:1])), [("red", 0), ("blue", 1)])
        self.assertEqual(price(bag, ("red",), []), [("red", 0), ("blue", 0)])
        for colour, many in price(bag, ["red"], SCRIPT):
            self.assertIs(type(many), int)

    def test_a_stretch_pays_at_both_ends(self):
        grove = mixed_grove()
        deed = ("stretch", ("root", 0), ("a1", 0), ("b1", 0), ("a2", 0))
        self.assertEqual(price(grove.bag(), grove.roots(), [deed]), [("red", 1), ("blue", 1)])
        deed = ("hang", ("root", 1), ("a1", 0))
        self.assertEqual(price(grove.bag(), grove.roots(), [deed, deed]), [("red", 0), ("blue", 2)])

    def test_colours_in_the_order_of_places(self):
        book = Book([("a", "blue", ("green", "red")), ("z", "red", ()), ("y", "green", ()), ("w", "white", ())])
        bag = Bag(book, [("a", "a"), ("z", "z"), ("y", "y"), ("n", "z")])
        self.assertEqual(price(bag, ["red", "blue"], []), [("red", 0), ("blue", 0), ("green", 0)])
        self.assertEqual(price(bag, ["blue", "red"], []), [("blue", 0), ("red", 0), ("green", 0)])
        self.assertEqual(
            price(bag, ["blue", "red"], [("hang", ("root", 1), ("a", 1))]), [("blue", 0), ("red", 1), ("green", 0)]
        )
        self.assertEqual(price(Bag(book, ()), [], []), [])

    def test_all_deeds_of_small_groves(self):
        for country in countries():
            for bushes, grove in country.groves.items():
                surgery = country.surgeries[bushes]
                for deed in surgery.every_deed():
                    paid = surgery.paid(deed)
                    told = price(grove.bag(), grove.roots(), [deed])
                    self.assertEqual([(colour, paid.count(colour)) for colour, _ in told], told)
                    self.assertEqual(sum(many for _, many in told), len(paid))

    def test_the_longest_scripts(self):
        draw = random_source(44)
        grove = large_grove(draw, 40)
        script = []
        f = grove
        for _ in range(120):
            script.append(draw.choice(all_deeds(f)[:40]))
            f = done(f, script[-1])
        self.assertEqual(walked(grove, script), f)
        self.assertEqual(walked(f, turned_back(grove, script)), grove)
        self.check_script(grove, script)

    def check_script(self, grove, script):
        self.assertEqual(len(steps(grove, script)), 121)
        self.assertEqual(first_bad(grove, script + [None]), 120)


if __name__ == "__main__":
    unittest.main()
