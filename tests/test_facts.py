"""bushcoins.facts: S8.3 to S8.6."""

import itertools
import unittest

from bushcoins.bags import Bag
from bushcoins.books import Book
from bushcoins.building import judge_bar
from bushcoins.counting import count_named
from bushcoins.errors import Clash, TooGreat, Unbuilt
from bushcoins.facts import (
    count_with, grove_with, has_facts, judge_paper, judge_place, names_at, number_with, paper_of, place_paper, settles,
    share, steady_list, sure_facts, thinned, verdict,
)
from bushcoins.groves import Grove
from bushcoins.melting import melted, melted_grove
from bushcoins.numbering import grove_at, number_of
from tests.lands import large_grove
from tests.samples import Case, anything, nested, random_source, sample_bag, sample_grove
from tests.truths import Truth, mixed_bag, random_truths, ring_bag, truths

BLUE = ["blue"]
BUSHES = (("a", ("b", ("d", ("c", ("y",), ("z",))))),)
# Of the bag of these two nothing can stand at the root but r, and then b and c have no place.
LONELY = Bag(Book([("b", "blue", ("blue",)), ("r", "red", ())]), [("b", "b"), ("c", "b"), ("r", "r")])
EMPTY = Bag(Book([]), [])


def lists_of(draw, many, most=4):
    """Truths with facts of every kind."""
    found = []
    for truth in truths() + random_truths(draw, 12):
        found += [(truth, truth.some_facts(draw, most)) for _ in range(many)]
    return found


def can_lists(draw, many, most=4):
    """Truths with facts that some grove has."""
    return [(truth, facts) for truth, facts in lists_of(draw, many, most) if truth.with_facts(facts)]


def misshapen(paper):
    """Values with what a paper has in them that have not its shape, or begin with another word."""
    found = [list(paper), paper[:-1], paper + (paper[-1],), paper[1:], (paper,), [paper], {"paper": paper}, paper[0]]
    return found + [(word,) + paper[1:] for word in (paper[0].upper(), [paper[0]], (paper[0],), "nothing", "")]


class FactCase(Case):
    def assert_clash(self, number, call, *told):
        with self.assertRaises(Clash) as caught:
            call(*told)
        self.assertIs(type(caught.exception), Clash)
        self.assertEqual(caught.exception.number, number)

    def assert_unbuilt(self, word, value, call, *told):
        with self.assertRaises(Unbuilt) as caught:
            call(*told)
        self.assertIs(type(caught.exception), Unbuilt)
        self.assertEqual((caught.exception.word, caught.exception.value), (word, value))


class TestHasFacts(FactCase):
    def test_against_tables(self):
        draw = random_source(241)
        for truth, facts in lists_of(draw, 8):
            right = truth.with_facts(facts)
            for k, grove in enumerate(truth.groves[:12]):
                self.assertIs(has_facts(grove, facts), k in right)
                self.assertIs(has_facts(grove, tuple(facts)), k in right)

    def test_facts_may_clash(self):
        self.assertIs(has_facts(sample_grove(), [(("p", 0), "q"), (("p", 0), "r")]), False)
        self.assertIs(has_facts(sample_grove(), [(("q", 0), "q")]), False)
        self.assertIs(has_facts(sample_grove(), [(("root", 0), "y")]), False)
        self.assertIs(has_facts(sample_grove(), []), True)
        self.assertIs(has_facts(sample_grove(), sample_grove().table()), True)


class TestPapers(FactCase):
    def test_each_kind_against_a_search(self):
        met = set()
        for truth, facts in lists_of(random_source(242), 25):
            told = paper_of(truth.bag, list(truth.roots), tuple(facts))
            self.assertIs(type(told), tuple)
            self.assertEqual(paper_of(truth.bag, truth.roots, list(facts)), told)
            self.assertIs(judge_paper(truth.bag, truth.roots, facts, told), True)
            clash = truth.clash(facts)
            if clash is not None:
                self.assertEqual(told, ("clash",) + clash)
            elif truth.with_facts(facts):
                self.assertEqual((told[0], len(told)), ("grove", 2))
                self.assertIs(type(told[1]), tuple)
                self.assertIs(has_facts(Grove(truth.bag, truth.roots, told[1]), facts), True)
            else:
                self.assertEqual((told[0], len(told)), ("bar", 3))
                bag, roots = melted(truth.bag, truth.roots, facts)
                self.assertIs(judge_bar(bag, roots, told[1:]), True)
            met.add(told[:1] + told[1:2] * (told[0] == "bar"))
        self.assertEqual(met, {("grove",), ("clash",), ("bar", "closed"), ("bar", "colour")})

    def test_by_hand(self):
        self.assertEqual(paper_of(EMPTY, [], []), ("grove", ()))
        self.assertEqual(paper_of(EMPTY, ["red"], []), ("bar", "colour", "red"))
        self.assertEqual(paper_of(LONELY, ["red"], []), ("bar", "closed", ("red",)))
        self.assertEqual(paper_of(LONELY, ["red"], [(("root", 0), "r")]), ("bar", "closed", ()))
        self.assertEqual(paper_of(LONELY, ["red"], [(("b", 0), "c"), (("c", 0), "b")]), ("clash", 1, "ring"))
        self.assertEqual(paper_of(ring_bag(), BLUE, [(("a", 0), "b"), (("a", 0), "c")]), ("clash", 1, "place"))
        self.assertEqual(paper_of(ring_bag(), BLUE, [(("root", 0), "y")]), ("bar", "closed", ()))

    def test_all_groves_are_papers(self):
        for truth, facts in lists_of(random_source(243), 6):
            right = truth.with_facts(facts)
            for k, grove in enumerate(truth.groves[:20]):
                bushes = tuple(grove.bushes())
                self.assertIs(judge_paper(truth.bag, truth.roots, facts, ("grove", bushes)), k in right)

    def test_all_bars_are_papers(self):
        for truth, facts in lists_of(random_source(244), 8):
            bag, roots = melted(truth.bag, truth.roots, facts) if not truth.clash(facts) else (EMPTY, ())
            words = truth.bag.book().colours() + ["zz"]
            bars = [("colour", word) for word in words]
            for many in range(len(words) + 1):
                bars += [("closed", colours) for colours in itertools.combinations(sorted(words), many)]
            for bar in bars:
                right = not truth.clash(facts) and judge_bar(bag, roots, bar)
                self.assertIs(judge_paper(truth.bag, truth.roots, facts, ("bar",) + bar), right)

    def test_clashes_are_papers(self):
        facts = [(("a", 0), "b"), (("b", 0), "a"), (("b", 0), "c")]
        for k in (-1, 0, 1, 2, 3, True, False, None, "1", (1,), [1], 10 ** 39):
            for word in ("ring", "place", "name", "colour", "form", "", None, ["ring"], ("ring",)):
                right = k == 1 and k is not True and word == "ring"
                self.assertIs(judge_paper(ring_bag(), BLUE, facts, ("clash", k, word)), right, (k, word))
        facts = [(("a", 0), "a")]
        for k, right in ((0, True), (False, False), (1, False)):
            self.assertIs(judge_paper(ring_bag(), BLUE, facts, ("clash", k, "ring")), right)
        # No list that does not clash has such a paper.
        for facts in ([], [(("a", 0), "b")]):
            for word in ("ring", "place", "name", "colour", "form"):
                for k in (0, 1, 2):
                    self.assertIs(judge_paper(ring_bag(), BLUE, facts, ("clash", k, word)), False)
                    self.assertIs(judge_paper(LONELY, ["red"], [], ("clash", k, word)), False)

    def test_papers_of_another_kind(self):
        """A list that clashes has no other paper, though what is left of it may be barred."""
        facts = [(("b", 0), "b")]
        self.assertIs(judge_paper(LONELY, ["red"], facts, ("clash", 0, "ring")), True)
        self.assertIs(judge_paper(LONELY, ["red"], facts, ("bar", "closed", ("red",))), False)
        self.assertIs(judge_paper(LONELY, ["red"], facts, ("bar", "closed", ())), False)
        self.assertIs(judge_paper(LONELY, ["red"], [], ("bar", "closed", ("red",))), True)
        self.assertIs(judge_paper(sample_bag(), ["red"], [], ("grove", tuple(sample_grove().bushes()))), True)

    def spoilt(self, paper):
        """Values that look like a paper and are none."""
        found = misshapen(paper)
        for k in range(len(paper)):
            for value in anything() + ["grove", "clash", "bar", "closed", "colour"]:
                if value != paper[k] or (value is True and paper[k] == 1) or (value is False and paper[k] == 0):
                    found.append(paper[:k] + (value,) + paper[k + 1:])
        return found

    def test_values_of_every_kind(self):
        bag = ring_bag()
        grove = ("grove", BUSHES)
        for value in anything() + [nested(39, "tuple"), nested(39, "list")]:
            self.assertIs(judge_paper(bag, BLUE, [], value), False)
        self.assertIs(judge_paper(bag, BLUE, [], grove), True)
        for value in self.spoilt(grove):
            self.assertIs(judge_paper(bag, BLUE, [], value), False, value)
        barred = [(("root", 0), "y")]
        self.assertIs(judge_paper(bag, BLUE, barred, ("bar", "closed", ())), True)
        for value in self.spoilt(("bar", "closed", ())):
            # Words that are no colours may stand in it.
            if value in (("bar", "closed", ("a",)), ("bar", "closed", ("a", "b", "c"))):
                continue
            self.assertIs(judge_paper(bag, BLUE, barred, value), False, value)
        clash = [(("a", 0), "b"), (("b", 0), "a")]
        self.assertIs(judge_paper(bag, BLUE, clash, ("clash", 1, "ring")), True)
        for value in self.spoilt(("clash", 1, "ring")):
            self.assertIs(judge_paper(bag, BLUE, clash, value), False, value)

    def test_lists_in_the_place_of_tuples(self):
        bag = ring_bag()
        for bushes in (
            list(BUSHES), [list(BUSHES[0])], (list(BUSHES[0]),), (("a", ["b", ("d", ("c", ("y",), ("z",)))]),),
            (("a", ("b", ("d", ("c", ["y"], ("z",))))),), BUSHES[0], BUSHES + BUSHES, (),
        ):
            self.assertIs(judge_paper(bag, BLUE, [], ("grove", bushes)), False)
        self.assertIs(judge_paper(bag, BLUE, [(("root", 0), "y")], ("bar", "closed", [])), False)
        self.assertIs(judge_paper(bag, BLUE, [(("root", 0), "y")], ["bar", "closed", ()]), False)
        self.assertIs(judge_paper(LONELY, ["red"], [], ("bar", "closed", ["red"])), False)
        self.assertIs(judge_paper(LONELY, ["red"], [], ("bar", "closed", ("red", "blue"))), False)

    def test_sixty_joints(self):
        draw = random_source(245)
        for _ in range(2):
            grove = large_grove(draw)
            facts = draw.sample(grove.table(), 12)
            told = paper_of(grove.bag(), grove.roots(), facts)
            self.assertEqual(told[0], "grove")
            self.assertIs(judge_paper(grove.bag(), grove.roots(), facts, told), True)
            told = ("grove", tuple(grove.bushes()))
            self.assertIs(judge_paper(grove.bag(), grove.roots(), grove.table(), told), True)


class TestCounts(FactCase):
    def test_against_a_search(self):
        draw = random_source(246)
        met = set()
        for truth, facts in lists_of(draw, 25):
            right = len(truth.with_facts(facts))
            told = count_with(truth.bag, truth.roots, facts)
            self.assertIs(type(told), int)
            self.assertEqual(told, right)
            self.assertIs(settles(truth.bag, list(truth.roots), tuple(facts)), right == 1)
            more = truth.some_facts(draw, 3)
            told = share(truth.bag, truth.roots, facts, more)
            self.assertEqual(told, (len(truth.with_facts(facts + more)), right))
            self.assertEqual([type(told)] + [type(number) for number in told], [tuple, int, int])
            self.assertEqual(share(truth.bag, list(truth.roots), tuple(facts), more), told)
            self.assertEqual(share(truth.bag, truth.roots, facts, tuple(more)), told)
            met.add((min(told[0], 1), min(told[1], 2)))
        self.assertEqual(met, {(0, 0), (0, 1), (1, 1), (0, 2), (1, 2)})

    def test_by_hand(self):
        self.assertEqual(count_with(sample_bag(), ["red"], []), 12)
        self.assertEqual(share(sample_bag(), ["red"], [], [(("p", 0), "q")]), (4, 12))
        self.assertEqual(share(sample_bag(), ["red"], [(("p", 0), "q")], []), (4, 4))
        # Not in lowest terms, and also with 0.
        self.assertEqual(share(sample_bag(), ["red"], [(("p", 0), "q")], [(("p", 1), "q")]), (0, 4))
        self.assertEqual(share(sample_bag(), ["red"], [(("q", 0), "q")], [(("p", 1), "q")]), (0, 0))
        self.assertEqual(count_with(EMPTY, [], []), 1)
        self.assertIs(settles(EMPTY, [], []), True)
        self.assertIs(settles(EMPTY, ["red"], []), False)
        self.assertIs(settles(sample_bag(), ["red"], sample_grove().table()), True)
        self.assertIs(settles(sample_bag(), ["red"], [(("p", 0), "p")]), False)

    def test_large_bags(self):
        grove = large_grove(random_source(247))
        table = grove.table()
        known = None
        for many in range(0, len(table) + 1, 5):
            told = count_with(grove.bag(), grove.roots(), table[:many])
            self.assertEqual(told, count_named(*melted(grove.bag(), grove.roots(), table[:many])))
            self.assertTrue(known is None or 1 <= told <= known)
            known = told


class TestVerdicts(FactCase):
    def test_against_a_search(self):
        met = {}
        draw = random_source(248)
        for truth, facts in can_lists(draw, 6):
            numbers = truth.with_facts(facts)
            sure = []
            for place in truth.places:
                names = [name for name in truth.bag.names() if truth.with_facts(facts + [(place, name)])]
                told = names_at(truth.bag, list(truth.roots), tuple(facts), place)
                self.assertEqual(told, names)
                for name in truth.bag.names():
                    many = len(truth.with_facts(facts + [(place, name)]))
                    right = "never" if many == 0 else "sure" if many == len(numbers) else "open"
                    for kind in (list, tuple):
                        self.assertEqual(verdict(truth.bag, truth.roots, kind(facts), (place, name)), right)
                    met[right] = met.get(right, 0) + 1
                    if right == "sure":
                        sure.append((place, name))
            self.assertEqual(sure_facts(truth.bag, truth.roots, facts), sure)
            for fact in facts:
                self.assertIn(fact, sure)
        self.assertGreater(min(met.values()), 50)

    def test_by_hand(self):
        self.assertEqual(verdict(sample_bag(), ["red"], [], (("root", 0), "p")), "sure")
        self.assertEqual(verdict(sample_bag(), ["red"], [], (("root", 0), "q")), "never")
        self.assertEqual(verdict(sample_bag(), ["red"], [], (("q", 0), "q")), "never")
        self.assertEqual(verdict(sample_bag(), ["red"], [], (("q", 0), "z")), "open")
        self.assertEqual(verdict(sample_bag(), ["red"], [(("q", 0), "z")], (("q", 0), "z")), "sure")
        self.assertEqual(verdict(sample_bag(), ["red"], [(("q", 0), "z")], (("r", 0), "z")), "never")
        self.assertEqual(sure_facts(sample_bag(), ["red"], []), [(("root", 0), "p")])
        self.assertEqual(names_at(sample_bag(), ["red"], [], ("p", 0)), ["q", "r", "y", "z"])
        self.assertEqual(names_at(sample_bag(), ["red"], [(("p", 1), "q")], ("p", 0)), ["r", "y", "z"])
        self.assertEqual(names_at(sample_bag(), ["red"], [], ("root", 0)), ["p"])

    def test_lists_are_new(self):
        facts = [(("q", 0), "z")]
        self.assert_new(lambda: sure_facts(sample_bag(), ["red"], facts))
        self.assert_new(lambda: names_at(sample_bag(), ["red"], facts, ("p", 0)))
        verdict(sample_bag(), ["red"], facts, (("p", 0), "q"))
        self.assertEqual(facts, [(("q", 0), "z")])

    def test_twenty_four_joints(self):
        draw = random_source(249)
        while True:
            grove = large_grove(draw, 24)
            if len(grove.walk()) <= 24:
                break
        facts = grove.table()[:8]
        sure = sure_facts(grove.bag(), grove.roots(), facts)
        self.assertEqual([fact for fact in sure if fact in facts], facts)
        self.assertEqual(len(steady_list(grove)), len(set(steady_list(grove))))
        self.assertIs(settles(grove.bag(), grove.roots(), steady_list(grove)), True)


class TestPlaces(FactCase):
    def test_against_a_search(self):
        met = {}
        for truth, facts in can_lists(random_source(250), 6):
            for place in truth.places:
                names = [name for name in truth.bag.names() if truth.with_facts(facts + [(place, name)])]
                told = place_paper(truth.bag, list(truth.roots), tuple(facts), place)
                self.assertIs(type(told), tuple)
                self.assertEqual(place_paper(truth.bag, truth.roots, facts, place), told)
                self.assertIs(judge_place(truth.bag, truth.roots, facts, place, told), True)
                if len(names) == 1:
                    self.check_sure(truth, facts, place, told, names[0])
                else:
                    self.check_open(truth, facts, place, told)
                met[told[0]] = met.get(told[0], 0) + 1
        self.assertGreater(min(met.values()), 20)

    def check_sure(self, truth, facts, place, told, name):
        self.assertEqual((told[0], told[1], type(told[2])), ("sure", name, tuple))
        others = [other for other in truth.fitting(place) if other != name]
        self.assertEqual([row[0] for row in told[2]], others)
        for row in told[2]:
            self.assertEqual((type(row), len(row)), (tuple, 2))
            self.assertIn(row[1][0], ("clash", "bar"))
            more = facts + [(place, row[0])]
            self.assertIs(judge_paper(truth.bag, truth.roots, more, row[1]), True)
            if row[1][0] == "clash":
                self.assertEqual(row[1], ("clash",) + truth.clash(more))

    def check_open(self, truth, facts, place, told):
        self.assertEqual((told[0], len(told), type(told[1]), type(told[2])), ("open", 3, tuple, tuple))
        groves = [Grove(truth.bag, truth.roots, bushes) for bushes in told[1:]]
        for grove in groves:
            self.assertIs(has_facts(grove, facts), True)
        self.assertNotEqual(groves[0].joint(place), groves[1].joint(place))

    def test_all_pairs_of_groves(self):
        for truth, facts in can_lists(random_source(251), 1):
            numbers = truth.with_facts(facts)
            for place in truth.places[:4]:
                for one, other in itertools.product(range(min(len(truth.groves), 9)), repeat=2):
                    differ = truth.tables[one][place] != truth.tables[other][place]
                    right = differ and one in numbers and other in numbers
                    paper = ("open", tuple(truth.groves[one].bushes()), tuple(truth.groves[other].bushes()))
                    self.assertIs(judge_place(truth.bag, truth.roots, facts, place, paper), right)

    def test_the_root_of_the_sample(self):
        paper = place_paper(sample_bag(), ["red"], [], ("root", 0))
        self.assertEqual(paper, ("sure", "p", ()))
        facts = [(("p", 0), "q"), (("q", 0), "z")]
        paper = place_paper(sample_bag(), ["red"], facts, ("p", 1))
        self.assertEqual(paper, ("sure", "r", (
            ("q", ("clash", 2, "name")), ("y", ("bar", "closed", ("red",))), ("z", ("clash", 2, "name")),
        )))

    def spoilt(self, paper):
        """Values that look like a paper of a place and are none."""
        found = misshapen(paper) + [("open" if paper[0] == "sure" else "sure",) + paper[1:], ("never",) + paper[1:]]
        for k in range(3):
            for value in anything():
                if value != paper[k]:
                    found.append(paper[:k] + (value,) + paper[k + 1:])
        return found

    def test_values_of_every_kind(self):
        bag, facts, place = sample_bag(), [(("p", 0), "q"), (("q", 0), "z")], ("p", 1)
        paper = place_paper(bag, ["red"], facts, place)
        for value in anything() + self.spoilt(paper):
            self.assertIs(judge_place(bag, ["red"], facts, place, value), False, value)
        free = place_paper(bag, ["red"], [], place)
        self.assertEqual(free[0], "open")
        for value in anything() + self.spoilt(free) + [("open", free[1], free[1]), ("open", free[2], free[2])]:
            self.assertIs(judge_place(bag, ["red"], [], place, value), False, value)
        self.assertIs(judge_place(bag, ["red"], [], place, ("open", free[2], free[1])), True)
        for value in (
            ("open", list(free[1]), free[2]), ("open", free[1], list(free[2])), ("open", (list(free[1][0]),), free[2]),
        ):
            self.assertIs(judge_place(bag, ["red"], [], place, value), False)

    def test_spoilt_rows(self):
        bag, facts, place = sample_bag(), [(("p", 0), "q"), (("q", 0), "z")], ("p", 1)
        paper = place_paper(bag, ["red"], facts, place)
        rows = paper[2]
        spoilt = [rows[:-1], rows[1:], rows + rows[-1:], rows[::-1], list(rows), rows + (("r", ("clash", 2, "ring")),)]
        spoilt += [rows + (("p", ("clash", 2, "colour")),), (), (rows,), rows[:1] * 3, {"q": 1}]
        for k in range(3):
            other, refusal = rows[k]
            for row in [
                list(rows[k]), (other,), (other, refusal, 0), (refusal, other), ("r", refusal), ("nobody", refusal),
                (other, list(refusal)), (other, ("grove", tuple(sample_grove().bushes()))),
                (other, ("clash", 2, "ring")), (other, ("clash", 0, "name")), (other, ("bar", "colour", "blue")),
                (other, ("bar", "closed", ("blue",))), (other, ()), (other, None), ([other], refusal),
                ((other,), refusal), other, None, 7, [], ((other, refusal),),
            ]:
                spoilt.append(rows[:k] + (row,) + rows[k + 1:])
        for value in spoilt:
            self.assertIs(judge_place(bag, ["red"], facts, place, ("sure", "r", value)), False, value)
        for name in ("q", "y", "z", "p", "nobody", "", None, ["r"], ("r",), True, sample_grove()):
            self.assertIs(judge_place(bag, ["red"], facts, place, ("sure", name, rows)), False, name)
        self.assertIs(judge_place(bag, ["red"], facts, place, ("sure", "r", rows)), True)
        # Another bar of the same row is as right.
        also = (rows[0], ("y", ("bar", "closed", ("red", "zz"))), rows[2])
        self.assertIs(judge_place(bag, ["red"], facts, place, ("sure", "r", also)), True)

    def test_true_in_the_place_of_a_number(self):
        book = Book([("r", "red", ("red",)), ("z", "red", ())])
        bag = Bag(book, [("r", "r"), ("z", "z")])
        for facts, k in (([], 0), ([(("root", 0), "r")], 1)):
            paper = ("sure", "z", (("r", ("clash", k, "ring" if k == 0 else "name")),))
            self.assertIs(judge_place(bag, ["red"], facts, ("r", 0), paper), True)
            bad = ("sure", "z", (("r", ("clash", bool(k), "ring" if k == 0 else "name")),))
            self.assertIs(judge_place(bag, ["red"], facts, ("r", 0), bad), False)

    def test_no_such_paper_where_a_place_is_open(self):
        """Papers of other groves, or of less facts, do not do."""
        bag, place = sample_bag(), ("p", 1)
        sure = place_paper(bag, ["red"], [(("p", 0), "q"), (("q", 0), "z")], place)
        self.assertIs(judge_place(bag, ["red"], [(("p", 0), "q")], place, sure), False)
        self.assertIs(judge_place(bag, ["red"], [(("p", 0), "q"), (("q", 0), "y")], place, sure), False)
        free = place_paper(bag, ["red"], [], place)
        self.assertIs(judge_place(bag, ["red"], [(("p", 0), "q"), (("q", 0), "z")], place, free), False)


class TestLists(FactCase):
    def test_steady_lists(self):
        for truth in truths() + random_truths(random_source(252), 15):
            for k, grove in enumerate(truth.groves[::3]):
                right = []
                for place, name in grove.table():
                    if len(truth.with_facts(right + [(place, name)])) < len(truth.with_facts(right)):
                        right.append((place, name))
                told = steady_list(grove)
                self.assertEqual(told, right)
                self.assertIs(settles(truth.bag, truth.roots, told), True)
                self.assertEqual(truth.with_facts(told), [3 * k])
        self.assert_new(lambda: steady_list(sample_grove()))
        self.assertEqual(steady_list(sample_grove()), [(("p", 0), "q"), (("p", 1), "y")])
        self.assertEqual(steady_list(Grove(EMPTY, [], [])), [])

    def test_thinned_lists(self):
        draw = random_source(253)
        met = 0
        for truth, facts in can_lists(draw, 10, 7):
            right = list(facts)
            for k in reversed(range(len(facts))):
                rest = right[:k] + right[k + 1:]
                if truth.with_facts(rest) == truth.with_facts(right):
                    right = rest
            told = thinned(truth.bag, list(truth.roots), tuple(facts))
            self.assertEqual(told, right)
            self.assertEqual(thinned(truth.bag, truth.roots, facts), right)
            self.assertEqual(truth.with_facts(told), truth.with_facts(facts))
            for k in range(len(told)):
                rest = told[:k] + told[k + 1:]
                self.assertNotEqual(verdict(truth.bag, truth.roots, rest, told[k]), "sure")
            met += 0 < len(told) < len(facts)
        self.assertGreater(met, 10)

    def test_thinned_by_hand(self):
        table = sample_grove().table()
        self.assertEqual(thinned(sample_bag(), ["red"], table), [(("p", 0), "q"), (("p", 1), "y")])
        # Those at the end go first, so the front is kept.
        self.assertEqual(thinned(sample_bag(), ["red"], table[::-1]), [table[4], table[2]])
        self.assertEqual(thinned(sample_bag(), ["red"], [table[1], table[1]]), [table[1]])
        self.assertEqual(thinned(sample_bag(), ["red"], []), [])
        self.assertEqual(thinned(sample_bag(), ["red"], [table[0]]), [])
        facts = list(table)
        self.assert_new(lambda: thinned(sample_bag(), ["red"], facts))
        self.assert_new(lambda: thinned(sample_bag(), ["red"], [table[1]]))
        self.assertEqual(facts, table)

    def test_eighty_facts(self):
        draw = random_source(254)
        while True:
            grove = large_grove(draw, 24)
            if len(grove.walk()) <= 24:
                break
        facts = [draw.choice(grove.table()) for _ in range(80)]
        told = thinned(grove.bag(), grove.roots(), facts)
        many = count_with(grove.bag(), grove.roots(), facts)
        self.assertEqual(count_with(grove.bag(), grove.roots(), told), many)
        self.assertEqual(len(told), len(set(told)))
        self.assertEqual(told, [fact for k, fact in enumerate(facts) if fact in told and fact not in facts[:k]])


class TestNumbers(FactCase):
    def test_there_and_back(self):
        met = 0
        for truth, facts in can_lists(random_source(255), 6):
            numbers = truth.with_facts(facts)
            for k, number in enumerate(numbers):
                grove = truth.groves[number]
                self.assertEqual(grove_with(truth.bag, list(truth.roots), tuple(facts), k), grove)
                self.assertEqual(number_with(grove, facts), k)
                self.assertIs(type(number_with(grove, tuple(facts))), int)
            for number in (len(numbers), len(numbers) + 5, 10 ** 39):
                with self.assertRaises(TooGreat) as caught:
                    grove_with(truth.bag, truth.roots, facts, number)
                self.assertIs(type(caught.exception), TooGreat)
            met += len(numbers) > 1
        self.assertGreater(met, 20)

    def test_the_numbers_of_the_melted_bag(self):
        facts = [(("p", 1), "q")]
        for k in range(4):
            grove = grove_with(sample_bag(), ["red"], facts, k)
            self.assertEqual(number_of(melted_grove(grove, facts)), k)
        # They come in the order of the numbers among all groves.
        numbers = [number_of(grove_with(sample_bag(), ["red"], facts, k)) for k in range(4)]
        self.assertEqual(numbers, sorted(numbers))

    def test_thirty_joints_when_melted(self):
        draw = random_source(256)
        grove = large_grove(draw)
        facts = draw.sample(grove.table(), len(grove.walk()) - 28)
        many = count_with(grove.bag(), grove.roots(), facts)
        number = number_with(grove, facts)
        self.assertTrue(0 <= number < many)
        self.assertEqual(grove_with(grove.bag(), grove.roots(), facts, number), grove)
        for number in (0, many - 1, draw.randrange(many)):
            told = grove_with(grove.bag(), grove.roots(), facts, number)
            self.assertIs(has_facts(told, facts), True)
            self.assertEqual(number_with(told, facts), number)

    def test_errors_of_number_with(self):
        self.assert_clash(1, number_with, sample_grove(), [(("p", 0), "q"), (("p", 0), "r")])
        self.assert_clash(1, number_with, sample_grove(), [(("p", 0), "q"), (("q", 0), "z")])
        # What clashes comes ahead of what the grove does not have.
        self.assert_clash(1, number_with, sample_grove(), [(("q", 0), "z"), (("q", 0), "q")])
        self.assertEqual(number_with(sample_grove(), []), 1)

    def test_no_facts_are_all_numbers(self):
        for k in range(12):
            self.assertEqual(grove_with(sample_bag(), ["red"], [], k), grove_at(sample_bag(), ["red"], k))


class TestErrors(FactCase):
    def calls(self, bag, roots, facts):
        """The functions that want facts that some grove has."""
        place = ("root", 0)
        return [
            lambda: verdict(bag, roots, facts, (place, bag.names()[0])), lambda: names_at(bag, roots, facts, place),
            lambda: sure_facts(bag, roots, facts), lambda: place_paper(bag, roots, facts, place),
            lambda: judge_place(bag, roots, facts, place, None), lambda: thinned(bag, roots, facts),
            lambda: grove_with(bag, roots, facts, 0), lambda: grove_with(bag, roots, facts, 10 ** 39),
            lambda: judge_place(bag, roots, facts, place, ("sure", "r", ())),
        ]

    def test_clashes_come_first(self):
        for bag, roots, facts, number in (
            (ring_bag(), BLUE, [(("a", 0), "b"), (("b", 0), "a")], 1),
            (ring_bag(), BLUE, [(("a", 0), "b"), (("c", 0), "y"), (("a", 0), "z")], 2),
            # Also where the bag has no grove.
            (LONELY, ["red"], [(("b", 0), "b")], 0),
            (LONELY, ["red", "red"], [(("b", 0), "b")], 0),
        ):
            for call in self.calls(bag, roots, facts):
                self.assert_clash(number, call)

    def test_what_is_not_built(self):
        for bag, roots, facts, word, value in (
            (LONELY, ["red"], [], "closed", ("red",)),
            (LONELY, ["red"], [(("root", 0), "r")], "closed", ()),
            (LONELY, ["red", "zz"], [], "colour", "zz"),
            (ring_bag(), ["blue", "blue"], [], "colour", "blue"),
            (ring_bag(), BLUE, [(("root", 0), "y")], "closed", ()),
            (mixed_bag(), ["red"], [], "colour", "blue"),
            (mixed_bag(), ["red", "blue"], [(("root", 1), "z1"), (("root", 0), "r1")], "closed", ()),
        ):
            for call in self.calls(bag, roots, facts):
                self.assert_unbuilt(word, value, call)

    def test_where_nothing_is_raised(self):
        clash = [(("a", 0), "b"), (("b", 0), "a")]
        self.assertEqual(count_with(ring_bag(), BLUE, clash), 0)
        self.assertEqual(count_with(LONELY, ["red"], []), 0)
        self.assertEqual(share(LONELY, ["red"], [], []), (0, 0))
        self.assertIs(settles(LONELY, ["red"], []), False)
        self.assertIs(settles(ring_bag(), BLUE, clash), False)

    def test_what_was_passed_stays(self):
        bag, roots, facts = sample_bag(), ["red"], [(("q", 0), "z")]
        for call in self.calls(bag, roots, facts)[:7]:
            call()
        paper_of(bag, roots, facts)
        share(bag, roots, facts, facts)
        self.assertEqual((bag, roots, facts), (sample_bag(), ["red"], [(("q", 0), "z")]))

    def test_melted_bags_are_bags(self):
        """What melted returns can be passed on."""
        bag, roots = melted(sample_bag(), ["red"], [(("root", 0), "p")])
        self.assertEqual(count_with(bag, roots, [(("root", 1), "q")]), 4)
        self.assertEqual(len(Truth(bag, roots).groves), 12)


if __name__ == "__main__":
    unittest.main()
