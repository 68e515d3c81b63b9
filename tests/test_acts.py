"""bushcoins.acts: S10.2 and S10.3."""

import unittest

from bushcoins.acts import act_word, after
from bushcoins.bags import Bag
from bushcoins.books import Book
from bushcoins.deeds import done
from bushcoins.errors import BadAct
from bushcoins.groves import Grove
from tests.lands import MIXED_BOOK, PLAIN_BOOK, countries, large_grove, mixed_grove, spoilt, twin_roots_grove
from tests.samples import Case, anything, no_places, random_source, sample_book, sample_grove
from tests.yards import Yard, any_act, same_stand, tried_act

SAMPLE = (sample_grove(), (), None)
HANG = ("hang", ("p", 1), ("q", 0))
# Of the sample book: a joint of b that holds one of z, and one with an open branch.
TWO = (("m", "b"), ("n", "z"))
PLANT = ("plant", TWO, ("m", ("n",)))
GRAFT = ("graft", ("q", 0), (("m", "b"),), ("m", None))


def with_nails(*places, grove=None, goal=None):
    """A stand with nailed places; the goal is told by a deed."""
    grove = grove or sample_grove()
    order = [place for place, _ in grove.table()]
    return (grove, tuple(sorted(places, key=order.index)), done(grove, goal) if goal else None)


def full_grove(joints, roots=1):
    """A grove of so many joints: a chain at the first root, and joints without branches at the others."""
    book = Book(PLAIN_BOOK)
    many = joints - roots
    names = [f"b{k}" for k in range(many)]
    bush = ("z0",)
    for name in reversed(names):
        bush = (name, bush)
    ends = [f"z{k}" for k in range(roots)]
    bag = Bag(book, [(name, "b") for name in names] + [(name, "z") for name in ends])
    return Grove(bag, ("c",) * roots, (bush,) + tuple((name,) for name in ends[1:]))


class ActCase(Case):
    def check(self, stand, act, word):
        """The act has this word, and after does what it should."""
        self.assertEqual(act_word(stand, act), word, act)
        if word is None:
            told = after(stand, act)
            same_stand(self, told, Yard(stand).behind(act))
            return told
        with self.assertRaises(BadAct) as caught:
            after(stand, act)
        self.assertIs(type(caught.exception), BadAct)
        self.assertIs(type(caught.exception.word), str)
        self.assertEqual(caught.exception.word, word)
        return None


class TestForms(ActCase):
    def test_values_of_every_kind(self):
        for value in anything():
            self.check(SAMPLE, value, "form")

    def test_words_and_members(self):
        acts = [
            HANG, ("stretch", ("p", 0), ("q", 0), ("p", 1), ("p", 1)), ("nail", ("p", 0)), ("free", ("p", 0)),
            ("goal", None), PLANT, ("fell", 0), GRAFT, ("prune", ("p", 0), ("q", 0)),
        ]
        words = {act[0] for act in acts}
        for act in acts:
            for bad in (
                list(act), act[:-1], act + (act[-1],), act + (None,), act[:1], (act,), [act],
                (act[0].upper(),) + act[1:], (act[0] + " ",) + act[1:],
                ([act[0]],) + act[1:], ((act[0],),) + act[1:], act[1:], act[0], {act[0]: 1},
            ):
                self.check(SAMPLE, bad, "form")
            # The words of other acts have other numbers of members, or are told wrongly otherwise.
            for word in sorted(words):
                other = (word,) + act[1:]
                self.check(SAMPLE, other, Yard(SAMPLE).word(other))
        for word in ("", "undo", "redo", "keep", "root", "p", "show", "goals", "Hang"):
            for members in range(6):
                self.check(SAMPLE, (word,) + (("p", 0),) * members, "form")
        for value in anything():
            self.check(SAMPLE, (value, ("p", 0)), "form")
            self.check(SAMPLE, (value, None, None), "form")


class TestDeeds(ActCase):
    def test_all_deeds_of_small_groves(self):
        draw = random_source(291)
        met = set()
        for country in countries():
            for bushes, surgery in list(country.surgeries.items())[::20]:
                grove = country.groves[bushes]
                nails = tuple(place for place in surgery.places if draw.random() < 0.25)
                deeds = surgery.every_deed()
                for deed in draw.sample(deeds, min(12, len(deeds))):
                    word = Yard((grove, nails, None)).word(deed)
                    self.check((grove, nails, None), deed, word)
                    self.check((grove, (), None), deed, None)
                    met.add((deed[0], word))
        self.assertEqual(met, {(word, told) for word in ("hang", "stretch") for told in (None, "nail")})

    def test_the_goal_and_the_nails_stay(self):
        stand = with_nails(("p", 0), ("root", 0), goal=HANG)
        told = self.check(stand, HANG, None)
        self.assertEqual(told, (done(sample_grove(), HANG), (("root", 0), ("p", 0)), done(sample_grove(), HANG)))

    def test_values_that_are_no_deeds(self):
        for deed in (HANG, ("stretch", ("p", 0), ("q", 0), ("p", 1), ("p", 1))):
            for value in spoilt(deed):
                word = Yard(SAMPLE).word(value)
                self.assertIsNotNone(word)
                self.check(SAMPLE, value, word)
        self.check(SAMPLE, ("hang", ("p", 0), ("q", 0)), "deed")
        self.check(SAMPLE, ("hang", ("root", 0), ("p", 0)), "deed")
        self.check(SAMPLE, ("hang", ("p", 0), ("p", True)), "deed")
        self.check(SAMPLE, ("hang", ["p", 0], ("p", 1)), "deed")

    def test_a_deed_that_cannot_be_done_comes_ahead_of_nails(self):
        stand = with_nails(("p", 0), ("q", 0), ("p", 1))
        self.check(stand, ("hang", ("p", 0), ("q", 0)), "deed")
        self.check(stand, HANG, "nail")
        self.check(stand, ("stretch", ("p", 0), ("q", 0), ("q", 0), ("r", 0)), "nail")

    def test_touched_places_alone_count(self):
        # The joints of a stretch may stand at nailed places within it.
        deed = ("stretch", ("p", 0), ("r", 0), ("p", 1), ("p", 1))
        for place, word in (
            (("root", 0), None), (("q", 0), None), (("p", 0), "nail"), (("r", 0), "nail"), (("p", 1), "nail"),
        ):
            self.check(with_nails(place), deed, word)


class TestNails(ActCase):
    def test_places(self):
        grove = sample_grove()
        for place, _ in grove.table():
            told = self.check(SAMPLE, ("nail", place), None)
            self.assertEqual(told, (grove, (place,), None))
            self.check(told, ("nail", place), "place")
            self.assertEqual(self.check(told, ("free", place), None), SAMPLE)
            self.check(SAMPLE, ("free", place), "place")
        for value in no_places("q"):
            for word in ("nail", "free"):
                self.check(SAMPLE, (word, value), "place")
                self.check(with_nails(("q", 0), ("root", 0)), (word, value), "place")

    def test_nails_are_in_the_order_of_places(self):
        stand = SAMPLE
        order = [("q", 0), ("root", 0), ("r", 0), ("p", 1), ("p", 0)]
        for place in order:
            stand = self.check(stand, ("nail", place), None)
        self.assertEqual(stand[1], (("root", 0), ("p", 0), ("p", 1), ("q", 0), ("r", 0)))
        for place in order:
            stand = self.check(stand, ("free", place), None)
        self.assertEqual(stand, SAMPLE)

    def test_goals_with_another_joint_there(self):
        stand = with_nails(goal=HANG)
        for place, word in (
            (("root", 0), None), (("p", 0), None), (("p", 1), "goal"), (("q", 0), "goal"), (("r", 0), None),
        ):
            told = self.check(stand, ("nail", place), word)
            if word is None:
                self.assertEqual(told[2], done(sample_grove(), HANG))
                self.assertEqual(self.check(told, ("free", place), None), stand)
        # A place that is none, or is nailed, comes ahead of the goal.
        self.check(stand, ("nail", ("p", 2)), "place")
        self.check(stand, ("free", ("p", 1)), "place")


class TestGoals(ActCase):
    def test_goals(self):
        goal = done(sample_grove(), HANG)
        told = self.check(SAMPLE, ("goal", tuple(goal.bushes())), None)
        self.assertEqual(told, (sample_grove(), (), goal))
        self.assertEqual(self.check(told, ("goal", None), None), SAMPLE)
        # Also if there was none, and also the grove itself.
        self.assertEqual(self.check(SAMPLE, ("goal", None), None), SAMPLE)
        self.assertEqual(self.check(told, ("goal", tuple(sample_grove().bushes())), None)[2], sample_grove())
        empty = Grove(Bag(Book([]), []), (), ())
        self.assertEqual(self.check((empty, (), None), ("goal", ()), None), (empty, (), empty))

    def test_values_that_are_no_groves(self):
        right = tuple(sample_grove().bushes())
        bad = [
            list(right), [list(right[0])], (list(right[0]),), right[0], right + right, (), (None,), ("p",), ((),),
            (("p", ("q", ["r", ("z",)]), ("y",)),), (("p", ("q", ("r", ("z",))), ("z",)),),
            (("p", ("q", ("z",)), ("y",)),), (("p", ("q", ("r", ("z",))), None),), (("p", ("q", ("r", ("z",)))),),
            (("q", ("r", ("z",))),), True, False, sample_grove(), sample_grove().bushes(),
        ]
        for value in anything() + bad:
            if value is not None:
                self.check(SAMPLE, ("goal", value), "grove")
                self.check(with_nails(("p", 0)), ("goal", value), "grove")

    def test_another_joint_at_a_nailed_place(self):
        goal = tuple(done(sample_grove(), HANG).bushes())
        for place, word in (
            (("root", 0), None), (("p", 0), None), (("p", 1), "nail"), (("q", 0), "nail"), (("r", 0), None),
        ):
            self.check(with_nails(place), ("goal", goal), word)
            self.check(with_nails(place), ("goal", None), None)


class TestPlants(ActCase):
    def test_plants(self):
        told = self.check(SAMPLE, PLANT, None)
        self.assertEqual(told[0].bag().joints(), sample_grove().bag().joints() + [("m", "b"), ("n", "z")])
        self.assertEqual((told[0].roots(), told[0].bushes()[1:]), (("red", "blue"), [("m", ("n",))]))
        # Joints in another order than in the bush.
        told = self.check(SAMPLE, ("plant", TWO[::-1], ("m", ("n",))), None)
        self.assertEqual(told[0].bag().names()[-2:], ["n", "m"])
        # Nails stay, the goal goes.
        stand = with_nails(("root", 0), ("r", 0), goal=HANG)
        self.assertEqual(self.check(stand, PLANT, None)[1:], ((("root", 0), ("r", 0)), None))

    def test_joints(self):
        bad = [
            None, [], list(TWO), TWO + (["x", "z"],), TWO + (("x", "z", 0),), TWO + (("x",),), TWO + ((),),
            TWO + (None,), TWO + (("m", "b"),),
            TWO + (("n", "z"),), TWO + (("p", "z"),), TWO + (("z", "z"),), TWO + (("root", "z"),),
            TWO + (("X", "z"),), TWO + (("", "z"),), TWO + (("x" * 13, "z"),), TWO + (("1x", "z"),), TWO + ((7, "z"),),
            TWO + (("x", "y"),), TWO + (("x", "blue"),), TWO + (("x", None),), TWO + (("x", ["z"]),),
            TWO + (("x", ""),), TWO[0], (("m", ("b",)), TWO[1]), {"m": "b", "n": "z"}, "mb", True,
        ]
        for value in anything() + bad:
            # () is a tuple of no joints.
            self.check(SAMPLE, ("plant", value, ("m", ("n",))), "bush" if value == () else "joints")
            if value != ():
                self.check(SAMPLE, ("plant", value, None), "joints")
                self.check(SAMPLE, ("graft", ("q", 0), value, ("m", None)), "joints")
        # Ahead of a bush that is none, and of too many joints and roots.
        for joints in ((("z0", "z"),), (("new", "y"),), None, (("new", "z"), ("new", "z"))):
            self.check((full_grove(60, 6), (), None), ("plant", joints, None), "joints")
            self.check((full_grove(60, 6), (), None), ("graft", ("root", 0), joints, ("z0", None)), "joints")

    def test_bushes(self):
        bad = [
            ["m", ("n",)], ("m", ["n"]), ("m",), ("m", ("n",), ("n",)), ("n",), ("m", ("n",), None), ("m", None),
            ("m", ("n", None)), ("m", ("m", ("n",))), ("n", ("m",)), ("m", ("z",)), ("m", ("r", ("n",))), ("q", ("n",)),
            (("m", ("n",)),), ("M", ("n",)), (None, ("n",)), ("m", "n"), "m", ("m", ()), (["m"], ("n",)),
        ]
        for value in anything() + bad:
            self.check(SAMPLE, ("plant", TWO, value), "bush")
            self.check((full_grove(60, 6), (), None), ("plant", (("m", "b"), ("n", "z")), value), "bush")
        # A wrong colour, a joint too many or too few.
        joints = (("g", "a"), ("h", "z"), ("i", "z"))
        self.check(SAMPLE, ("plant", joints, ("g", ("h",), ("i",))), None)
        self.check(SAMPLE, ("plant", joints[:2], ("g", ("h",), ("i",))), "bush")
        self.check(SAMPLE, ("plant", joints + (("j", "z"),), ("g", ("h",), ("i",))), "bush")
        self.check(SAMPLE, ("plant", (("m", "b"),) + joints, ("m", ("g", ("h",), ("i",)))), "bush")
        self.check(SAMPLE, ("plant", joints, ("g", ("h",), None)), "bush")
        self.check(SAMPLE, ("plant", (), ()), "bush")
        self.check(SAMPLE, ("plant", (), None), "bush")
        self.check(SAMPLE, ("plant", (("h", "z"),), ("h",)), None)

    def test_too_many(self):
        # 60 joints at most, six roots at most.
        one, two = (("x", "z"),), (("x", "b"), ("y", "z"))
        for joints, roots, act, word in (
            (59, 1, ("plant", one, ("x",)), None), (60, 1, ("plant", one, ("x",)), "many"),
            (59, 1, ("plant", two, ("x", ("y",))), "many"), (58, 1, ("plant", two, ("x", ("y",))), None),
            (10, 5, ("plant", one, ("x",)), None), (10, 6, ("plant", one, ("x",)), "many"),
            (59, 5, ("plant", one, ("x",)), None), (60, 6, ("plant", one, ("x",)), "many"),
            (59, 6, ("graft", ("root", 0), two[:1], ("x", None)), None),
            (60, 6, ("graft", ("root", 0), two[:1], ("x", None)), "many"),
            (60, 1, ("graft", ("root", 0), two[:1], ("x", None)), "many"),
            (58, 1, ("graft", ("root", 0), (("w", "b"),) + two[:1], ("x", ("w", None))), None),
            (59, 1, ("graft", ("root", 0), (("w", "b"),) + two[:1], ("x", ("w", None))), "many"),
        ):
            self.check((full_grove(joints, roots), (), None), act, word)


class TestGrafts(ActCase):
    def test_grafts(self):
        told = self.check(SAMPLE, GRAFT, None)
        self.assertEqual(told[0].bushes(), [("p", ("q", ("m", ("r", ("z",)))), ("y",))])
        self.assertEqual(told[0].bag().joints()[-1], ("m", "b"))
        # At a root, with joints aside of the way.
        joints = (("g", "t"), ("h", "z"), ("i", "b"))
        stand = (twin_roots_grove(), (("root", 2), ("b", 0)), None)
        told = self.check(stand, ("graft", ("root", 0), joints, ("g", ("h",), ("i", None))), None)
        self.assertEqual(told[0].bushes()[0], ("g", ("h",), ("i", ("b", ("x",)))))
        self.assertEqual(told[1], (("root", 2), ("b", 0)))
        # The goal goes.
        self.assertIsNone(self.check(with_nails(goal=HANG), GRAFT, None)[2])

    def test_places_and_nails(self):
        for value in no_places("q"):
            self.check(SAMPLE, ("graft", value) + GRAFT[2:], "place")
            self.check(SAMPLE, ("graft", value, None, None), "place")
        self.check(with_nails(("q", 0)), GRAFT, "nail")
        self.check(with_nails(("q", 0)), ("graft", ("q", 0), None, None), "nail")
        self.check(with_nails(("p", 0), ("r", 0), ("root", 0)), GRAFT, None)

    def test_bushes(self):
        place = ("q", 0)
        bad = [
            ["m", None], ("m",), ("m", None, None), ("m", ("n",)), ("n", None), None, (None,), ((None,),),
            ("m", (None,)), ("m", ("m", None)),
            ("m", ()), ("m", False), ("m", 0), ("m", ""), ("m", "root"), ("m", ("root",)), "m",
        ]
        for value in anything() + bad:
            self.check(SAMPLE, ("graft", place, (("m", "b"),), value), "bush")
        # None in no place, in two places, at the root; joints too many or too few.
        self.check(SAMPLE, ("graft", place, TWO, ("m", ("n",))), "bush")
        self.check(SAMPLE, ("graft", place, TWO, ("m", None)), "bush")
        self.check(SAMPLE, ("graft", place, (), None), "bush")
        self.check(SAMPLE, ("graft", place, (), ("m", None)), "bush")
        book = Book(PLAIN_BOOK)
        grove = Grove(Bag(book, [("b", "b"), ("z", "z")]), ("c",), (("b", ("z",)),))
        for bush, word in (
            (("t", None, None), "bush"), (("t", None, ("s",)), None), (("t", ("s",), None), None),
            (("t", ("s",), ("s",)), "bush"), (("t", None), "bush"), (("s",), "bush"), (None, "bush"),
        ):
            self.check((grove, (), None), ("graft", ("b", 0), (("t", "t"), ("s", "z")), bush), word)

    def test_colours(self):
        """The place with None and the first stem have the colour of the place told."""
        grove = mixed_grove()
        stand = (grove, (), None)
        red, blue = ("a1", 1), ("a1", 0)
        a = (("n", "a"), ("o", "z"))
        self.check(stand, ("graft", red, a, ("n", ("o",), None)), None)
        self.check(stand, ("graft", blue, a, ("n", ("o",), None)), "bush")
        # The first stem fits, the open place does not.
        rest = (("n", "a"), ("o", "r"))
        self.check(stand, ("graft", red, rest, ("n", None, ("o",))), "bush")
        self.check(stand, ("graft", blue, rest, ("n", None, ("o",))), "bush")
        # The open place fits, the first stem does not.
        both = (("n", "b"), ("o", "a"), ("s", "z"))
        self.check(stand, ("graft", red, both, ("n", ("o", ("s",), None))), "bush")
        self.check(stand, ("graft", red, (("n", "b"),), ("n", None)), "bush")
        self.check(stand, ("graft", blue, (("n", "b"),), ("n", None)), "bush")
        blue_bush = ((("n", "b"), ("o", "a"), ("s", "r")), ("n", ("o", None, ("s",))))
        self.check(stand, ("graft", blue) + blue_bush, None)
        self.check(stand, ("graft", ("root", 1)) + blue_bush, None)
        self.check(stand, ("graft", ("root", 0)) + blue_bush, "bush")


class TestFells(ActCase):
    def test_roots(self):
        grove = twin_roots_grove()
        stand = (grove, (("root", 0), ("root", 2), ("b", 0), ("d", 0)), None)
        for n in range(3):
            self.check(stand, ("fell", n), None)
        self.assertEqual(self.check(stand, ("fell", 0), None)[1], (("root", 1), ("d", 0)))
        self.assertEqual(self.check(stand, ("fell", 1), None)[1], (("root", 0), ("root", 1), ("b", 0), ("d", 0)))
        self.assertEqual(self.check(stand, ("fell", 2), None)[1], (("root", 0), ("b", 0)))
        self.assertEqual(self.check(stand, ("fell", 0), None)[0].bag().names(), ["d", "y", "z"])
        goal = done(grove, ("hang", ("root", 0), ("root", 1)))
        self.assertIsNone(self.check((grove, (), goal), ("fell", 1), None)[2])
        # To the last root.
        told = self.check(SAMPLE, ("fell", 0), None)
        self.assertEqual((told[0].roots(), told[0].bushes(), told[0].bag().joints()), ((), [], []))
        self.check(told, ("fell", 0), "place")

    def test_values_that_are_no_numbers_of_roots(self):
        stand = (twin_roots_grove(), (), None)
        for value in anything() + [3, -1, -3, True, False, "0", ("root", 0), (0,), [0]]:
            if type(value) is int and 0 <= value < 3:
                self.check(stand, ("fell", value), None)
            else:
                self.check(stand, ("fell", value), "place")


class TestPrunes(ActCase):
    def test_prunes(self):
        told = self.check(SAMPLE, ("prune", ("p", 0), ("q", 0)), None)
        self.assertEqual(told[0].bushes(), [("p", ("r", ("z",)), ("y",))])
        self.assertEqual(told[0].bag().names(), ["p", "r", "y", "z"])
        told = self.check(SAMPLE, ("prune", ("p", 0), ("r", 0)), None)
        self.assertEqual(told[0].bushes(), [("p", ("z",), ("y",))])
        self.assertIsNone(self.check(with_nails(goal=HANG), ("prune", ("p", 0), ("q", 0)), None)[2])

    def test_joints_aside_of_the_way_go_too(self):
        book = Book(PLAIN_BOOK)
        bag = Bag(book, [("t", "t"), ("x", "z"), ("u", "t"), ("y", "z"), ("z", "z")])
        stand = (Grove(bag, ("c",), (("t", ("x",), ("u", ("y",), ("z",))),)), (("t", 1), ("u", 0)), None)
        self.assertEqual(self.check(stand, ("prune", ("root", 0), ("u", 1)), None)[0].bushes(), [("z",)])
        told = self.check(stand, ("prune", ("root", 0), ("t", 1)), None)
        self.assertEqual((told[0].bushes(), told[1]), ([("u", ("y",), ("z",))], (("u", 0),)))

    def test_nails(self):
        # s must not be nailed; t may be, and goes with its joint.
        self.check(with_nails(("p", 0)), ("prune", ("p", 0), ("q", 0)), "nail")
        told = self.check(with_nails(("q", 0), ("r", 0), ("p", 1)), ("prune", ("p", 0), ("q", 0)), None)
        self.assertEqual(told[1], (("p", 1), ("r", 0)))

    def test_places(self):
        for value in no_places("q"):
            self.check(SAMPLE, ("prune", value, ("q", 0)), "place")
            self.check(SAMPLE, ("prune", ("p", 0), value), "place")
        # Empty, upside down, apart, of two colours.
        for s, t in (
            (("p", 0), ("p", 0)), (("q", 0), ("p", 0)), (("p", 1), ("q", 0)), (("p", 0), ("p", 1)),
            (("root", 0), ("p", 0)), (("root", 0), ("r", 0)), (("root", 0), ("root", 0)),
        ):
            self.check(SAMPLE, ("prune", s, t), "place")
            # That comes ahead of the nail.
            self.check(with_nails(s), ("prune", s, t), "place")
        grove = mixed_grove()
        met = set()
        for s, _ in grove.table():
            for t, _ in grove.table():
                for nails in ((), (s,), (t,)):
                    word = Yard((grove, nails, None)).word(("prune", s, t))
                    self.check((grove, nails, None), ("prune", s, t), word)
                    met.add(word)
        self.assertEqual(met, {None, "place", "nail"})


class TestAnyActs(ActCase):
    def test_acts_that_can_be_done(self):
        draw = random_source(292)
        met = {}
        for k in range(12):
            grove = [sample_grove(), mixed_grove(), twin_roots_grove(), large_grove(draw, 24)][k % 4]
            stand = (grove, (), None)
            for n in range(25):
                act = any_act(draw, stand, f"s{n}x")
                stand = self.check(stand, act, None)
                met[act[0]] = met.get(act[0], 0) + 1
        self.assertEqual(len(met), 9, met)
        self.assertGreater(min(met.values()), 3, met)

    def test_acts_that_may_be_refused(self):
        draw = random_source(293)
        met = set()
        for k in range(10):
            grove = [sample_grove(), mixed_grove(), twin_roots_grove(), large_grove(draw, 50)][k % 4]
            stand = (grove, (), None)
            for n in range(40):
                act = tried_act(draw, Yard(stand), stand, f"s{n}x" if n % 3 else "s0x", 12)
                if act is None:
                    continue
                word = Yard(stand).word(act)
                behind = self.check(stand, act, word)
                stand = behind or stand
                met.add((act[0], word))
        for told in (("hang", "nail"), ("nail", "place"), ("nail", "goal"), ("free", "place"), ("graft", "nail")):
            self.assertIn(told, met)

    def test_what_was_passed_stays(self):
        stand = with_nails(("root", 0), goal=HANG)
        for act in (
            HANG, ("nail", ("r", 0)), ("free", ("root", 0)), ("goal", None), PLANT, GRAFT, ("fell", 0),
            ("prune", ("p", 0), ("q", 0)),
        ):
            after(stand, act)
            self.assertEqual(stand, with_nails(("root", 0), goal=HANG))
            self.assertEqual(after(stand, act), after(stand, act))
        self.assertEqual(sample_grove().bag().book(), sample_book())
        self.assertEqual(Book(MIXED_BOOK), mixed_grove().bag().book())


if __name__ == "__main__":
    unittest.main()
