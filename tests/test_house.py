"""bushcoins.house: S10.1, S10.4 to S10.7."""

import unittest

from bushcoins.acts import after
from bushcoins.bags import Bag
from bushcoins.between import first_deeds
from bushcoins.books import Book
from bushcoins.coins import coins, judge_way
from bushcoins.deeds import all_deeds, done
from bushcoins.errors import BadAct, NothingDone, UnknownName, UnlikeGroves
from bushcoins.goals import waste
from bushcoins.groves import Grove
from bushcoins.house import House, joined, parted
from tests.lands import PLAIN_BOOK, large_grove, mixed_grove, spoilt, twin_roots_grove
from tests.lives import (
    BAD, FELL, FREE, GOAL, HANG, MOVE, NAIL, PLANT, Ledger, live, other_house, sample_house, state_of,
)
from tests.samples import Case, anything, random_source, sample_book, sample_grove
from tests.yards import Yard, any_act, bush_at


class HouseCase(Case):
    def assert_bad(self, word, call, *told):
        with self.assertRaises(BadAct) as caught:
            call(*told)
        self.assertIs(type(caught.exception), BadAct)
        self.assertEqual(caught.exception.word, word)

    def assert_nothing_done(self, call):
        with self.assertRaises(NothingDone) as caught:
            call()
        self.assertIs(type(caught.exception), NothingDone)


class TestActs(HouseCase):
    def test_a_new_house(self):
        house = sample_house()
        self.assertEqual((house.grove(), house.goal(), house.nails()), (sample_grove(), None, []))
        self.assertEqual(house.stand(), (sample_grove(), (), None))
        self.assertEqual([type(house.stand()), type(house.stand()[1])], [tuple, tuple])
        self.assertEqual((house.done(), house.undone(), house.marks()), ([], [], []))
        self.assertEqual(house.paid(), [("red", 0), ("blue", 0)])
        for call in (house.goal, house.left, house.waste, house.way, house.next_deeds):
            self.assertIsNone(call())
        self.assert_nothing_done(house.undo)
        self.assert_nothing_done(house.redo)

    def test_do(self):
        house = sample_house()
        acts = [HANG, NAIL, GOAL, MOVE, FREE, PLANT, FELL]
        stand = house.stand()
        for k, act in enumerate(acts):
            number = house.do(act)
            self.assertEqual((number, type(number)), (k + 1, int))
            stand = after(stand, act)
            self.assertEqual(house.stand(), stand)
            self.assertEqual((house.grove(), tuple(house.nails()), house.goal()), stand)
            self.assertEqual(house.done(), acts[:k + 1])

    def test_acts_are_told_as_they_were_passed(self):
        turned = ("hang", ("q", 0), ("p", 1))
        house = sample_house(turned, HANG, ("plant", PLANT[1][::-1], PLANT[2]))
        self.assertEqual(house.done(), [turned, HANG, ("plant", PLANT[1][::-1], PLANT[2])])
        house.undo()
        self.assertEqual(house.undone(), [("plant", PLANT[1][::-1], PLANT[2])])
        house.undo()
        house.undo()
        self.assertEqual(house.undone()[0], turned)

    def test_undo_and_redo(self):
        acts = [HANG, NAIL, GOAL, MOVE, PLANT]
        house = sample_house(*acts)
        stands = [sample_house(*acts[:k]).stand() for k in range(6)]
        for k in reversed(range(5)):
            self.assertEqual(house.undo(), k)
            self.assertEqual(house.stand(), stands[k])
            self.assertEqual((house.done(), house.undone()), (acts[:k], acts[k:]))
        self.assert_nothing_done(house.undo)
        for k in range(1, 6):
            self.assertEqual(house.redo(), k)
            self.assertEqual(house.stand(), stands[k])
            self.assertEqual((house.done(), house.undone()), (acts[:k], acts[k:]))
        self.assert_nothing_done(house.redo)
        self.assertEqual(house.done(), acts)

    def test_an_act_ends_the_undone_ones(self):
        house = sample_house(HANG, NAIL, PLANT)
        house.undo()
        house.undo()
        self.assertEqual(house.undone(), [NAIL, PLANT])
        self.assertEqual(house.do(HANG), 2)
        self.assertEqual((house.done(), house.undone()), ([HANG, HANG], []))
        self.assert_nothing_done(house.redo)
        self.assertEqual(house.grove(), sample_grove())

    def test_refused_acts_change_nothing(self):
        states = [sample_house(), sample_house(HANG, NAIL, GOAL), sample_house(HANG, PLANT, MOVE)]
        for house in states + [house.twin() for house in states]:
            if house.done():
                house.keep("mark")
                house.undo()
            known = state_of(house)
            for value in anything() + spoilt(HANG)[::5] + [BAD, ("free", ("q", 0)), ("fell", 2), ("goal", ())]:
                word = Yard(house.stand()).word(value)
                if word is not None:
                    self.assert_bad(word, house.do, value)
                    self.assert_bad(word, house.tried, [value])
                    self.assert_bad(word, house.would, [value])
            self.assertEqual(state_of(house), known)

    def test_the_words_of_acts(self):
        house = sample_house(NAIL, ("nail", ("p", 1)))
        for act, word in (
            (None, "form"), (BAD, "deed"), (HANG, "nail"), (NAIL, "place"), (("goal", ()), "grove"), (GOAL, "nail"),
            (("plant", (), ()), "bush"), (("plant", [], ()), "joints"), (("fell", 1), "place"),
            (("prune", ("p", 0), ("p", 0)), "place"), (("graft", ("p", 1), (), ()), "nail"),
        ):
            self.assert_bad(word, house.do, act)
        house.do(("free", ("p", 1)))
        house.do(GOAL)
        self.assert_bad("goal", house.do, ("nail", ("p", 1)))

    def test_one_hundred_and_twenty_acts(self):
        house = sample_house()
        for k in range(120):
            self.assertEqual(house.do(HANG), k + 1)
        known = state_of(house)
        self.assert_bad("many", house.do, HANG)
        self.assert_bad("many", house.do, ("goal", None))
        # What is no act is told first.
        self.assert_bad("deed", house.do, BAD)
        self.assert_bad("form", house.do, None)
        self.assert_bad("many", house.tried, [HANG])
        self.assert_bad("many", house.would, [HANG])
        self.assert_bad("deed", house.tried, [BAD])
        self.assertEqual(house.tried([]), 120)
        self.assertEqual(house.would([]), house.stand())
        self.assertEqual(state_of(house), known)
        self.assertEqual((house.undo(), house.redo(), house.undo()), (119, 120, 119))
        self.assert_bad("many", house.tried, [HANG, HANG])
        self.assert_bad("many", house.would, [HANG, HANG, None])
        self.assert_bad("form", house.would, [HANG, None])
        self.assert_bad("deed", house.tried, [HANG, BAD])
        self.assertEqual((len(house.done()), len(house.undone())), (119, 1))
        self.assertEqual(house.tried([MOVE]), 120)
        self.assert_nothing_done(house.redo)
        self.assertEqual(house.paid(), [("red", 0), ("blue", 121)])

    def test_lists_are_new(self):
        house = sample_house(HANG, NAIL, ("goal", (("p", ("q", ("r", ("z",))), ("y",)),)), HANG, MOVE)
        house.undo()
        house.keep("mark")
        for call in (
            house.done, house.undone, house.nails, house.paid, house.marks,
            lambda: sample_house(HANG, GOAL, HANG).way(), lambda: sample_house(HANG, GOAL, HANG).next_deeds(),
        ):
            self.assert_new(call)
        other = sample_house(GOAL)
        self.assert_new(other.way)
        self.assert_new(other.next_deeds)
        self.assert_new(other.nails)


class TestTried(HouseCase):
    def test_tried(self):
        for kind in (list, tuple):
            house = sample_house()
            acts = kind([HANG, NAIL, PLANT])
            self.assertEqual(house.tried(acts), 3)
            self.assertEqual(house, sample_house(*acts))
            self.assertEqual(acts, kind([HANG, NAIL, PLANT]))
            self.assertEqual(house.undo(), 2)
            self.assertEqual(house.undo(), 1)
            self.assertEqual(house.tried(kind([("hang", ("p", 0), ("p", 1))])), 2)
            self.assertEqual(house.undone(), [])
            self.assertIs(type(house.tried(kind([NAIL]))), int)

    def test_the_list_is_not_kept(self):
        house, acts = sample_house(), [HANG, NAIL]
        house.tried(acts)
        acts.append(PLANT)
        acts[0] = MOVE
        self.assertEqual(house.done(), [HANG, NAIL])
        self.assertEqual(house, sample_house(HANG, NAIL))

    def test_a_bad_act_in_the_middle(self):
        house = sample_house(HANG, PLANT)
        house.undo()
        known = state_of(house)
        for acts, word in (
            ([HANG, BAD, HANG], "deed"), ([BAD], "deed"), ([HANG, NAIL, NAIL], "place"), ([HANG, None], "form"),
            ([HANG, ("fell", 0), HANG], "deed"), ([GOAL, ("nail", ("p", 1)), HANG, ("nail", ("q", 0))], "goal"),
            ([PLANT, PLANT], "joints"), ([HANG, [HANG]], "form"),
        ):
            word = self.first_word(house, acts)
            self.assert_bad(word, house.tried, acts)
            self.assert_bad(word, house.would, tuple(acts))
            self.assertEqual(state_of(house), known)

    def first_word(self, house, acts):
        stand = house.stand()
        for act in acts:
            word = Yard(stand).word(act)
            if word is not None:
                return word
            stand = Yard(stand).behind(act)
        return None

    def test_an_empty_list_changes_nothing(self):
        house = sample_house(HANG, NAIL)
        house.undo()
        for acts in ([], ()):
            self.assertEqual(house.tried(acts), 1)
            self.assertEqual(house.would(acts), house.stand())
        self.assertEqual(house.undone(), [NAIL])
        self.assertEqual(house.redo(), 2)
        self.assertEqual(sample_house().tried([]), 0)

    def test_would(self):
        house = sample_house(HANG, NAIL)
        house.undo()
        known = state_of(house)
        told = house.would([HANG, PLANT, FELL, GOAL])
        self.assertEqual(told, sample_house(HANG, HANG, PLANT, FELL, GOAL).stand())
        self.assertEqual([type(told), type(told[0]), type(told[1]), type(told[2])], [tuple, Grove, tuple, Grove])
        self.assertEqual(state_of(house), known)
        self.assertEqual(house.redo(), 2)


class TestCoins(HouseCase):
    def test_paid_over_deeds_at_several_stands(self):
        """What a deed costs is told by the colours at its own stand, though the names stand for others later."""
        house = House(mixed_grove())
        self.assertEqual(house.paid(), [("red", 0), ("blue", 0)])
        house.do(("hang", ("a2", 1), ("a1", 1)))
        self.assertEqual(house.paid(), [("red", 1), ("blue", 0)])
        house.do(("plant", (("n", "b"), ("o", "r")), ("n", ("o",))))
        house.do(("plant", (("g", "b"), ("h", "r")), ("g", ("h",))))
        house.do(("hang", ("n", 0), ("g", 0)))
        self.assertEqual(house.paid(), [("red", 2), ("blue", 0)])
        house.do(("hang", ("root", 2), ("root", 3)))
        self.assertEqual(house.paid(), [("red", 2), ("blue", 1)])
        house.do(("fell", 3))
        house.do(("fell", 2))
        # Now the place (n, 0) is blue.
        house.do(("plant", (("n", "a"), ("o", "z"), ("k", "r")), ("n", ("o",), ("k",))))
        house.do(("hang", ("n", 0), ("root", 1)))
        self.assertEqual(house.paid(), [("red", 2), ("blue", 2)])
        for right in ([2, 1], [2, 1], [2, 1], [2, 1], [2, 0], [1, 0]):
            house.undo()
            self.assertEqual([many for _, many in house.paid()], right)
        self.assertEqual([type(row) for row in house.paid()], [tuple, tuple])

    def test_two_coins(self):
        house = House(mixed_grove())
        deed = ("stretch", ("root", 0), ("a2", 0), ("a2", 0), ("a2", 0))
        deeds = [each for each in all_deeds(house.grove()) if each[0] == "stretch"]
        house.do(deeds[0])
        surgery = Yard(sample_stand(mixed_grove())).surgery
        paid = surgery.paid(deeds[0])
        self.assertEqual(house.paid(), [("red", paid.count("red")), ("blue", paid.count("blue"))])
        self.assert_bad("deed", house.do, deed)
        # All colours of the book, in its order, also those that nothing has.
        book = Book(tuple(PLAIN_BOOK) + (("w", "aa", ("zz",)),))
        grove = Grove(Bag(book, [("z", "z")]), ("c",), (("z",),))
        self.assertEqual(House(grove).paid(), [("c", 0), ("aa", 0), ("zz", 0)])

    def test_left_and_waste(self):
        house = sample_house(GOAL)
        self.assertEqual((house.left(), house.waste()), (1, 0))
        house.do(HANG)
        self.assertEqual((house.left(), house.waste()), (0, 0))
        house.do(HANG)
        self.assertEqual((house.left(), house.waste()), (1, 2))
        house.do(HANG)
        self.assertEqual((house.left(), house.waste()), (0, 2))
        self.assertEqual([type(house.left()), type(house.waste())], [int, int])
        # Nails change nothing; a goal that is told again begins anew.
        house.do(NAIL)
        self.assertEqual((house.left(), house.waste()), (0, 2))
        house.do(GOAL)
        self.assertEqual((house.left(), house.waste()), (0, 0))
        house.do(HANG)
        self.assertEqual((house.left(), house.waste()), (1, 2))
        # Behind undo the earlier goal counts once more.
        house.undo()
        house.undo()
        self.assertEqual((house.left(), house.waste()), (0, 2))
        house.do(("goal", None))
        self.assertEqual((house.left(), house.waste(), house.goal()), (None, None, None))
        house.undo()
        self.assertEqual(house.waste(), 2)
        house.redo()
        house.do(GOAL)
        self.assertEqual(house.waste(), 0)
        house.do(PLANT)
        self.assertEqual((house.left(), house.waste(), house.way(), house.next_deeds()), (None,) * 4)
        house.undo()
        self.assertEqual((house.left(), house.waste()), (0, 0))

    def test_the_same_goal_told_twice(self):
        """The last act that told a goal counts, though the goal was the same before."""
        house = sample_house(GOAL, HANG, HANG, GOAL)
        self.assertEqual(house.waste(), 0)
        house.undo()
        self.assertEqual(house.waste(), 2)
        house = sample_house(GOAL, HANG, HANG, ("goal", None), GOAL, HANG)
        self.assertEqual(house.waste(), 0)

    def test_waste_against_goals(self):
        draw = random_source(301)
        for _ in range(6):
            grove = large_grove(draw, 24)
            house = House(grove)
            house.do(("goal", tuple(grove.bushes())))
            goal, script = house.goal(), []
            for k in range(12):
                act = any_act(draw, (house.grove(), house.stand()[1], None), f"x{k}y")
                if act[0] in ("hang", "stretch"):
                    house.do(act)
                    script.append(act)
                self.assertEqual(house.waste(), waste(grove, goal, script))
                self.assertEqual(house.waste() % 2, 0)
                self.assertEqual(house.left(), coins(house.grove(), goal))

    def test_waste_is_none_along_a_fewest_way(self):
        draw = random_source(302)
        for _ in range(4):
            house = House(large_grove(draw, 30))
            goal = house.grove()
            for _ in range(8):
                goal = done(goal, draw.choice([deed for deed in all_deeds(goal)[::11]]))
            house.do(("goal", tuple(goal.bushes())))
            script = house.way()
            self.assertIsNone(judge_way(house.grove(), goal, script))
            self.assertEqual(house.way(), script)
            for deed in script:
                house.do(deed)
                self.assertEqual(house.waste(), 0)
            self.assertEqual((house.left(), house.way()), (0, []))

    def test_way_and_next_deeds(self):
        house = sample_house(("goal", tuple(done(sample_grove(), MOVE).bushes())))
        self.assertIsNone(judge_way(house.grove(), house.goal(), house.way()))
        self.assertEqual(house.next_deeds(), first_deeds(house.grove(), house.goal()))
        self.assertTrue(house.next_deeds())
        for deed in house.next_deeds():
            house.do(deed)
            self.assertEqual((house.waste(), house.left()), (0, 2 - (1 if deed[0] == "hang" else 2)))
            house.undo()
        self.assertEqual(sample_house(GOAL, HANG).next_deeds(), [])
        self.assertEqual(sample_house(GOAL, HANG).way(), [])

    def test_ways_touch_no_nails(self):
        """All deeds of a fewest way can be done, whatever is nailed."""
        draw = random_source(303)
        house = House(large_grove(draw, 24))
        for k in range(20):
            house.do(any_act(draw, house.stand(), f"n{k}x"))
            if house.goal() is not None:
                self.assertEqual(house.would(house.way())[0], house.goal())


def sample_stand(grove):
    return (grove, (), None)


class TestMarks(HouseCase):
    def test_marks(self):
        house = sample_house()
        self.assertIsNone(house.keep("one"))
        house.do(HANG)
        house.keep("two")
        house.keep("root")
        self.assertEqual(house.marks(), ["one", "two", "root"])
        self.assertEqual((house.marked("one"), house.marked("two")), (sample_grove(), done(sample_grove(), HANG)))
        self.assertEqual((house.coins_to("one"), house.coins_to("two")), (1, 0))
        # Kept again under the same name, in the place of what it had.
        house.keep("one")
        self.assertEqual(house.marks(), ["one", "two", "root"])
        self.assertEqual((house.marked("one"), house.coins_to("one")), (house.grove(), 0))

    def test_undo_does_not_change_them(self):
        house = sample_house(HANG)
        house.keep("mark")
        house.undo()
        self.assertEqual((house.marks(), house.marked("mark")), (["mark"], done(sample_grove(), HANG)))
        self.assertEqual(house.coins_to("mark"), 1)
        house.keep("other")
        house.redo()
        self.assertEqual(house.marks(), ["mark", "other"])
        # Keeping is no act: what is undone stays so.
        house.undo()
        house.keep("third")
        self.assertEqual(house.undone(), [HANG])

    def test_names_that_are_none(self):
        house = sample_house(HANG)
        house.keep("mark")
        known = state_of(house)
        for value in anything() + ["", "A", "x" * 13, "1", "a b", ["mark"], ("mark",), {"mark": 1}, "mark ", None]:
            for call in (house.marked, house.coins_to, house.keep):
                self.assert_unknown(UnknownName, value, call, value)
        for value in ("marks", "p", "root", "m"):
            self.assert_unknown(UnknownName, value, house.marked, value)
            self.assert_unknown(UnknownName, value, house.coins_to, value)
        self.assertEqual(state_of(house), known)

    def test_marks_of_other_bags_or_roots(self):
        house = sample_house()
        house.keep("start")
        house.do(PLANT)
        house.keep("planted")
        with self.assertRaises(UnlikeGroves) as caught:
            house.coins_to("start")
        self.assertIs(type(caught.exception), UnlikeGroves)
        self.assertEqual(house.coins_to("planted"), 0)
        self.assert_unknown(UnknownName, "nobody", house.coins_to, "nobody")
        house.do(FELL)
        self.assertEqual(house.coins_to("start"), 0)
        with self.assertRaises(UnlikeGroves):
            house.coins_to("planted")
        # The same joints in another order are another bag.
        house = House(twin_roots_grove())
        house.keep("start")
        tried = [("fell", 1), ("plant", (("y", "z"),), ("y",))]
        house.tried(tried)
        with self.assertRaises(UnlikeGroves):
            house.coins_to("start")


class TestTwins(HouseCase):
    def test_a_twin_goes_its_own_way(self):
        house = sample_house(HANG, NAIL, PLANT)
        house.keep("mark")
        house.undo()
        known = state_of(house)
        twin = house.twin()
        self.assertIs(type(twin), House)
        self.assertIsNot(twin, house)
        self.assert_equal_objects(house, twin)
        self.assertEqual(state_of(twin), known)
        twin.redo()
        twin.keep("other")
        twin.keep("mark")
        twin.do(MOVE)
        self.assertEqual(state_of(house), known)
        self.assert_unequal_objects(house, twin)
        twin = house.twin()
        behind = state_of(twin)
        house.undo()
        house.undo()
        house.keep("third")
        house.do(MOVE)
        self.assertEqual(state_of(twin), behind)
        # Its past is its own one, too.
        self.assertEqual((twin.undo(), twin.undo(), twin.grove()), (1, 0, sample_grove()))
        self.assertEqual(twin.undone(), [HANG, NAIL, PLANT])

    def test_equal_houses(self):
        self.assert_equal_objects(sample_house(), sample_house())
        self.assert_equal_objects(sample_house(HANG, NAIL), sample_house(HANG, NAIL))
        one, other = sample_house(HANG), sample_house(HANG)
        one.keep("mark")
        self.assert_unequal_objects(one, other)
        other.keep("mark")
        self.assert_equal_objects(one, other)
        # Marks with names in another order, or of other groves.
        one.keep("more")
        other.keep("less")
        self.assert_unequal_objects(one, other)
        one.keep("less")
        other.keep("more")
        self.assertEqual(sorted(one.marks()), sorted(other.marks()))
        self.assert_unequal_objects(one, other)
        one, other = sample_house(HANG), sample_house(HANG)
        one.keep("mark")
        other.undo()
        other.keep("mark")
        other.redo()
        self.assertEqual(one.stand(), other.stand())
        self.assert_unequal_objects(one, other)

    def test_unlike_pasts(self):
        """The present stand alone does not count."""
        self.assert_unequal_objects(sample_house(), sample_house(HANG, HANG))
        self.assert_unequal_objects(sample_house(HANG), House(done(sample_grove(), HANG)))
        self.assert_unequal_objects(sample_house(HANG), sample_house(("hang", ("q", 0), ("p", 1))))
        one, other = sample_house(), sample_house(HANG)
        other.undo()
        self.assert_unequal_objects(one, other)
        one.do(HANG)
        one.undo()
        self.assert_equal_objects(one, other)
        other.redo()
        self.assert_unequal_objects(one, other)
        one.do(MOVE)
        one.undo()
        other.undo()
        self.assert_unequal_objects(one, other)

    def test_unlike_beginnings(self):
        house = joined(sample_house(GOAL), other_house(("goal", tuple(other_house().grove().bushes()))))
        self.assert_unequal_objects(house, House(house.grove()))
        self.assert_unequal_objects(joined(sample_house(NAIL), other_house()), joined(sample_house(), other_house()))
        self.assert_equal_objects(joined(sample_house(NAIL), other_house()), joined(sample_house(NAIL), other_house()))

    def test_other_values(self):
        house = sample_house()
        for value in anything() + [sample_grove(), house.stand(), [house], house.done()]:
            self.assert_unequal_objects(house, value)


class TestJoined(HouseCase):
    def test_by_hand(self):
        one = sample_house(("nail", ("p", 1)), NAIL)
        other = other_house(("nail", ("root", 1)), ("nail", ("t", 0)))
        one.keep("mark")
        told = joined(one, other)
        self.assertIs(type(told), House)
        self.assertEqual(told.grove().bag().joints(), one.grove().bag().joints() + other.grove().bag().joints())
        self.assertEqual(told.grove().roots(), ("red", "blue", "red"))
        self.assertEqual(told.grove().bushes(), one.grove().bushes() + other.grove().bushes())
        self.assertEqual(told.nails(), [("root", 0), ("root", 2), ("p", 1), ("t", 0)])
        self.assertEqual((told.goal(), told.done(), told.undone(), told.marks()), (None, [], [], []))
        self.assert_nothing_done(told.undo)
        self.assertEqual(told.paid(), [("red", 0), ("blue", 0)])
        # The other way round.
        told = joined(other, one)
        self.assertEqual(told.grove().roots(), ("blue", "red", "red"))
        self.assertEqual(told.nails(), [("root", 1), ("root", 2), ("t", 0), ("p", 1)])
        self.assertEqual(told.grove().bag().names()[:5], other.grove().bag().names())

    def test_goals(self):
        """A goal in both, in one, in none."""
        goal = ("goal", (("v",), ("s", ("u",), ("t", ("w",)))))
        for first, second in ((True, True), (True, False), (False, True), (False, False)):
            one = sample_house(*[GOAL] * first)
            other = other_house(*[goal] * second)
            told = joined(one, other)
            if not (first and second):
                self.assertEqual((told.goal(), told.left(), told.waste()), (None, None, None))
                continue
            self.assertEqual(told.goal().bushes(), one.goal().bushes() + other.goal().bushes())
            self.assertEqual((told.goal().bag(), told.goal().roots()), (told.grove().bag(), told.grove().roots()))
            self.assertEqual(told.left(), one.left() + other.left())
            self.assertEqual(told.waste(), 0)
            told.do(HANG)
            self.assertEqual((told.left(), told.waste()), (1, 0))
            # Since the house began: no act told the goal.
            told.do(HANG)
            self.assertEqual((told.left(), told.waste()), (2, 2))
            told.do(("goal", tuple(told.goal().bushes())))
            self.assertEqual(told.waste(), 0)

    def test_unlike_houses(self):
        one = sample_house()
        common = Grove(Bag(sample_book(), [("y", "z")]), ("blue",), (("y",),))
        turned = Book(sample_book().shapes()[::-1])
        for other in (
            sample_house(), one, one.twin(), House(common),
            House(Grove(Bag(turned, [("u", "z")]), ("blue",), (("u",),))),
            House(twin_roots_grove()), House(Grove(Bag(Book([]), []), (), ())),
        ):
            for first, second in ((one, other), (other, one)):
                with self.assertRaises(UnlikeGroves) as caught:
                    joined(first, second)
                self.assertIs(type(caught.exception), UnlikeGroves)
        # Present names count: joints that are gone or came since then.
        other = House(common)
        other.do(("fell", 0))
        self.assertEqual(joined(one, other).grove(), sample_grove())
        self.assertEqual(joined(other, one).grove(), sample_grove())
        other.do(("plant", (("q", "z"),), ("q",)))
        with self.assertRaises(UnlikeGroves):
            joined(one, other)

    def test_the_houses_stay(self):
        one, other = sample_house(HANG, NAIL), other_house()
        one.undo()
        one.keep("mark")
        known = state_of(one), state_of(other)
        told = joined(one, other)
        told.do(MOVE_BACK)
        told.keep("more")
        self.assertEqual((state_of(one), state_of(other)), known)


MOVE_BACK = ("hang", ("root", 0), ("root", 2))


class TestParted(HouseCase):
    def check(self, house):
        grove = house.grove()
        roots = grove.roots()
        for number in range(len(roots) + 1):
            told = parted(house, number)
            self.assertEqual((type(told), len(told)), (tuple, 2))
            for k, (first, last) in enumerate(((0, number), (number, len(roots)))):
                part = told[k]
                self.assertIs(type(part), House)
                names = [name for n in range(first, last) for name in grove.names(("root", n))]
                self.assertEqual(part.grove().roots(), roots[first:last])
                self.assertEqual(part.grove().bushes(), grove.bushes()[first:last])
                self.assertEqual(part.grove().bag().book(), grove.bag().book())
                self.assertEqual(part.grove().bag().joints(), [
                    joint for joint in grove.bag().joints() if joint[0] in names
                ])
                nails = []
                for place in house.nails():
                    if place[0] == "root" and first <= place[1] < last:
                        nails.append(("root", place[1] - first))
                    elif place[0] in names:
                        nails.append(place)
                self.assertEqual(part.nails(), nails)
                self.assertEqual((part.done(), part.undone(), part.marks()), ([], [], []))
                self.check_goal(house, part, first, last, number)
            self.assertEqual(joined(*told).grove().bushes(), grove.bushes())

    def check_goal(self, house, part, first, last, number):
        if house.goal() is None:
            self.assertIsNone(part.goal())
            return
        ahead = sorted(name for n in range(number) for name in house.goal().names(("root", n)))
        if ahead != sorted(name for n in range(number) for name in house.grove().names(("root", n))):
            self.assertIsNone(part.goal())
            return
        self.assertEqual(part.goal().bushes(), house.goal().bushes()[first:last])
        self.assertEqual((part.goal().bag(), part.goal().roots()), (part.grove().bag(), part.grove().roots()))
        self.assertEqual(part.waste(), 0)

    def test_random_houses(self):
        draw = random_source(304)
        goals = 0
        for k in range(12):
            house = House([mixed_grove(), twin_roots_grove(), other_house().grove(), large_grove(draw, 24)][k % 4])
            for n in range(15):
                house.do(any_act(draw, house.stand(), f"n{n}x"))
                self.check(house)
                goals += house.goal() is not None
        self.assertGreater(goals, 20)

    def test_goals_that_can_be_parted_and_that_can_not(self):
        house = joined(sample_house(GOAL, NAIL), other_house(("goal", (("v",), ("s", ("u",), ("t", ("w",)))))))
        one, other = parted(house, 1)
        self.assertEqual((one.goal(), one.nails()), (sample_house(GOAL).goal(), [("root", 0)]))
        self.assertEqual(other.goal().bushes(), [("v",), ("s", ("u",), ("t", ("w",)))])
        # u and v change places over the second bound.
        one, other = parted(house, 2)
        self.assertEqual((one.goal(), other.goal()), (None, None))
        one, other = parted(house, 0)
        self.assertEqual((one.goal().bushes(), other.goal()), ([], house.goal()))
        one, other = parted(house, 3)
        self.assertEqual((one.goal(), other.goal().bushes()), (house.goal(), []))
        # Just the joints at the roots of the present grove count, in whatever order.
        house = House(twin_roots_grove())
        house.do(("goal", (("d", ("z",)), ("y",), ("b", ("x",)))))
        self.assertEqual([part.goal() for part in parted(house, 1)], [None, None])
        self.assertEqual([part.goal() for part in parted(house, 2)], [None, None])
        house.do(("goal", (("y",), ("b", ("x",)), ("d", ("z",)))))
        self.assertEqual([part.goal() for part in parted(house, 1)], [None, None])
        one, other = parted(house, 2)
        self.assertEqual((one.goal().bushes(), other.goal().bushes()), ([("y",), ("b", ("x",))], [("d", ("z",))]))
        self.assertEqual([part.left() for part in parted(house, 2)], [1, 0])

    def test_joined_again(self):
        house = joined(sample_house(GOAL, NAIL), other_house(("nail", ("t", 0))))
        one, other = parted(house, 1)
        again = joined(one, other)
        self.assertEqual(again.stand(), house.stand())
        self.assert_equal_objects(again, house)
        self.assert_equal_objects(one, joined(one, parted(one, 1)[1]))

    def test_values_that_are_no_numbers(self):
        house = joined(sample_house(), other_house())
        for value in anything() + [4, -1, True, False, "1", (1,), [1], 10 ** 39]:
            if not (type(value) is int and 0 <= value <= 3):
                self.assert_unknown(UnknownName, value, parted, house, value)
        empty = House(Grove(Bag(Book([]), []), (), ()))
        self.assert_unknown(UnknownName, 1, parted, empty, 1)
        self.assertEqual([part.grove().bushes() for part in parted(empty, 0)], [[], []])

    def test_the_house_stays(self):
        house = joined(sample_house(GOAL), other_house())
        house.do(NAIL)
        house.keep("mark")
        known = state_of(house)
        one, other = parted(house, 1)
        one.do(HANG)
        other.do(("fell", 0))
        self.assertEqual(state_of(house), known)


class TestWholeLives(HouseCase):
    def test_lives_against_ledgers(self):
        draw = random_source(305)
        for k in range(8):
            grove = [sample_grove(), mixed_grove(), twin_roots_grove(), other_house().grove()][k % 4]
            house, ledger = House(grove), Ledger((grove, (), None))
            live(draw, house, ledger, 40, f"k{k}", lambda: self.look(ledger, house))

    def look(self, ledger, house):
        if len(house.grove().walk()) <= 12 or house.goal() is None:
            ledger.check(self, house)

    def test_joined_parted_led_on_and_led_back(self):
        draw = random_source(306)
        for k in range(4):
            one, other = sample_house(), other_house()
            ledgers = [Ledger(one.stand()), Ledger(other.stand())]
            live(draw, one, ledgers[0], 12, f"o{k}", lambda: self.look(ledgers[0], one))
            live(draw, other, ledgers[1], 12, f"t{k}", lambda: self.look(ledgers[1], other))
            whole = joined(one, other)
            ledger = Ledger(whole.stand())
            live(draw, whole, ledger, 15, f"w{k}", lambda: self.look(ledger, whole))
            stand = whole.stand()
            for number in range(len(whole.grove().roots()) + 1):
                parts = parted(whole, number)
                more = [Ledger(part.stand()) for part in parts]
                for part, each, letter in zip(parts, more, "ab"):
                    if part.grove().walk():
                        live(draw, part, each, 6, f"{letter}{k}{number}", lambda: self.look(each, part))
                self.assertEqual(whole.stand(), stand)
            # Led back to its beginning, and led on again.
            acts = whole.done()
            while whole.done():
                whole.undo()
                ledger.undo()
                self.look(ledger, whole)
            self.assertEqual(whole.stand(), ledger.first)
            for act in acts:
                self.assertEqual(whole.undone()[0], act)
                whole.redo()
                ledger.redo()
                self.look(ledger, whole)
            self.assertEqual(whole.stand(), stand)

    def test_a_grove_stands_where_it_stood(self):
        """What hangs at a place that no act touched stays as it was."""
        house = joined(sample_house(), other_house())
        known = bush_at(tuple(house.grove().bushes()), ("root", 2))
        house.tried([HANG, MOVE_IN, NAIL])
        self.assertEqual(bush_at(tuple(house.grove().bushes()), ("root", 2)), known)


MOVE_IN = ("graft", ("p", 0), (("g", "b"),), ("g", None))


if __name__ == "__main__":
    unittest.main()
