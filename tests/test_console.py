"""bushcoins.console: S10.8."""

import unittest

from bushcoins.bags import Bag
from bushcoins.books import Book
from bushcoins.coins import coins, judge_way
from bushcoins.console import Console
from bushcoins.errors import BadAct
from bushcoins.groves import Grove
from bushcoins.house import House, joined
from bushcoins.reader import read_script
from tests.lands import PLAIN_BOOK, large_grove, mixed_grove, twin_roots_grove
from tests.lives import FREE, GOAL, HANG, MOVE, NAIL, PLANT, other_house, sample_house, state_of
from tests.oracles import Descent, Wrong, plain_lexemes
from tests.samples import Case, random_source, sample_grove
from tests.yards import Yard, any_act, tried_act

# A line of each form.
LINES = (
    "hang p 1 q 0", "stretch p 0 q 0 p 1 p 1", "nail p 0", "free p 0", "fell 0", "prune p 0 q 0", "goal",
    "goal { }", "goal { p(q(y), r(z)); }", "goal { a; b(c, d(e)); }", "plant () m", "plant (m b, n z) m(n)",
    "plant (m b) m(a(b, c), d)", "graft q 0 () m", "graft q 0 (m b) m(;)", "graft q 0 (m b, n z) m(n(;, o), ;)",
    "undo", "redo", "keep mark", "show", "left", "paid", "way", "at p 0", "where q", "to mark", "nails",
)
WORDS = (
    "hang", "stretch", "nail", "free", "fell", "prune", "goal", "plant", "graft", "undo", "redo", "keep", "show",
    "left", "paid", "way", "at", "where", "to", "nails",
)
LEXEMES = ("p", "12", "0", "(", ")", "{", "}", ",", ";", "x" * 12)


class LineDescent(Descent):
    """The forms of lines, gone through by hand."""

    def open_part(self):
        if self.shown() == ";":
            self.at += 1
        else:
            self.bush(self.open_part)

    def joints(self):
        self.just("(")
        if self.shown() == ")":
            self.at += 1
            return
        self.name()
        self.name()
        while self.shown() == ",":
            self.at += 1
            self.name()
            self.name()
        self.just(")")

    def goal(self):
        if self.shown() == "{":
            self.at += 1
            while self.shown() != "}":
                self.bush()
                self.just(";")
            self.just("}")

    def line(self):
        word = self.shown()
        if word not in WORDS:
            self.fail()
        self.at += 1
        for _ in range({"hang": 2, "stretch": 4, "prune": 2}.get(word, int(word in ("nail", "free", "graft", "at")))):
            self.place()
        if word == "fell":
            self.number()
        if word in ("keep", "where", "to"):
            self.name()
        if word == "goal":
            self.goal()
        if word in ("plant", "graft"):
            self.joints()
            self.bush(self.open_part if word == "graft" else None)
        if self.at < len(self.found) or self.bad is not None:
            self.fail()


def first_wrong(line):
    """The first wrong place of a line, or None if it is right."""
    try:
        LineDescent(line).line()
    except Wrong as wrong:
        return wrong.path
    return None


def place_lexemes(place):
    return [place[0], str(place[1])]


def bush_lexemes(bush):
    if bush is None:
        return [";"]
    found = [bush[0]]
    for k, part in enumerate(bush[1:]):
        found += ["," if k else "("] + bush_lexemes(part)
    return found + [")"] * (len(bush) > 1)


def joint_lexemes(joints):
    found = ["("]
    for k, (name, word) in enumerate(joints):
        found += [","] * (k > 0) + [name, word]
    return found + [")"]


def act_lexemes(act):
    """The lexemes of the line that tells an act."""
    word = act[0]
    if word in ("hang", "stretch", "nail", "free", "prune"):
        return [word] + [lexeme for place in act[1:] for lexeme in place_lexemes(place)]
    if word == "fell":
        return [word, str(act[1])]
    if word == "goal":
        if act[1] is None:
            return [word]
        return [word, "{"] + [lexeme for bush in act[1] for lexeme in bush_lexemes(bush) + [";"]] + ["}"]
    if word == "plant":
        return [word] + joint_lexemes(act[1]) + bush_lexemes(act[2])
    return [word] + place_lexemes(act[1]) + joint_lexemes(act[2]) + bush_lexemes(act[3])


def written(lexemes, draw=None):
    """The lexemes with blanks and line feeds between them: any, or only where none may be missing."""
    gaps = ["", "", " ", "\n", "  ", " \n "]
    found = ""
    for ahead, lexeme in zip([""] + lexemes, lexemes):
        # Words and numbers need a gap between them, but for a word behind a number.
        close = not (ahead.isalnum() and lexeme.isalnum()) or (ahead.isdigit() and lexeme[0].isalpha())
        if draw:
            found += draw.choice(gaps if close else gaps[2:])
        found += lexeme if draw or close else " " + lexeme
    return found + (draw.choice(gaps) if draw else "")


class ConsoleCase(Case):
    def say(self, console, line, answer):
        told = console.say(line)
        self.assertIs(type(told), str)
        self.assertEqual(told, answer, line)


class TestAnswers(ConsoleCase):
    def test_a_life(self):
        house = sample_house()
        console = Console(house)
        self.assertIs(console.house(), house)
        for line, answer in (
            ("show", "p(q(r(z)), y)"), ("left", "none"), ("paid", ""), ("way", "none"), ("nails", ""),
            ("hang p 1 q 0", "1"), ("show", "p(q(y), r(z))"), ("paid", "blue 1"), ("keep mark", "1"), ("to mark", "0"),
            ("at p 0", "q"), ("at root 0", "p"), ("where q", "p 0"), ("where p", "root 0"), ("keep other", "2"),
            ("stretch p 0 q 0 p 1 p 1", "2"), ("show", "p(y, q(r(z)))"), ("paid", "blue 3"), ("to mark", "2"),
            ("goal { p(q(r(z)), y); }", "3"), ("left", "1"), ("way", "hang p 0 p 1"), ("undo", "2"), ("redo", "3"),
            ("nail root 0", "4"), ("nail r 0", "5"), ("nails", "root 0, r 0"), ("free root 0", "6"), ("nails", "r 0"),
            ("plant (m b, n z) m(n)", "7"), ("show", "p(y, q(r(z))); m(n)"), ("left", "none"), ("way", "none"),
            ("graft m 0 (g b) g(;)", "8"), ("show", "p(y, q(r(z))); m(g(n))"), ("keep mark", "2"),
            ("prune p 1 q 0", "9"), ("show", "p(y, r(z)); m(g(n))"), ("fell 1", "10"), ("show", "p(y, r(z))"),
            ("fell 0", "11"), ("show", ""), ("nails", ""), ("paid", "blue 3"), ("goal {}", "12"), ("left", "0"),
            ("way", ""), ("goal", "13"), ("left", "none"), ("undo", "12"), ("way", ""),
        ):
            self.say(console, line, answer)
        self.assertEqual(len(house.done()), 12)
        self.assertEqual(house.undone(), [("goal", None)])

    def test_acts(self):
        """Each line does just the act that it tells."""
        draw = random_source(311)
        met = {}
        for k in range(12):
            grove = [sample_grove(), mixed_grove(), twin_roots_grove(), large_grove(draw, 24)][k % 4]
            house, other = House(grove), House(grove)
            console = Console(house)
            for n in range(25):
                act = any_act(draw, house.stand(), f"n{n}x")
                line = written(act_lexemes(act), draw if n % 2 else None)
                self.assertIsNone(first_wrong(line))
                self.say(console, line, str(other.do(act)))
                self.assertEqual(house.done(), other.done())
                self.assertEqual(house.stand(), other.stand())
                met[act[0]] = met.get(act[0], 0) + 1
        self.assertEqual(len(met), 9)

    def test_acts_that_may_be_refused(self):
        draw = random_source(312)
        met = set()
        for k in range(8):
            house = House([sample_grove(), mixed_grove(), twin_roots_grove(), large_grove(draw, 40)][k % 4])
            console = Console(house)
            for n in range(30):
                act = tried_act(draw, Yard(house.stand()), house.stand(), f"s{n % 9}x", 9)
                if act is None or act[1:] == (None,) and act[0] != "goal":
                    continue
                word = Yard(house.stand()).word(act)
                known, many = house.twin(), len(house.done())
                if word is None:
                    self.say(console, written(act_lexemes(act), draw), str(many + 1))
                else:
                    self.say(console, written(act_lexemes(act), draw), f"no BadAct {word}")
                    self.assert_equal_objects(house, known)
                met.add(word)
        self.assertTrue({None, "nail", "place"} <= met, met)

    def test_goals_are_tuples(self):
        house = sample_house()
        Console(house).say("goal{p(q(y),r(z));}")
        Console(house).say("goal")
        Console(house).say("plant (m b,n z) m(n)")
        Console(house).say("graft n 0 () n")
        self.assertEqual(house.done(), [GOAL, ("goal", None), PLANT])

    def test_ways(self):
        draw = random_source(313)
        for _ in range(5):
            house = House(large_grove(draw, 24))
            for k in range(30):
                house.do(any_act(draw, house.stand(), f"n{k}x"))
                told = Console(house).say("way")
                if house.goal() is None:
                    self.assertEqual((told, Console(house).say("left")), ("none", "none"))
                    continue
                script = read_script("script {" + (told + ";" if told else "") + "}")
                self.assertIsNone(judge_way(house.grove(), house.goal(), script))
                self.assertEqual(told, "; ".join(written_deed(deed) for deed in script))
                self.assertEqual(Console(house).say("left"), str(coins(house.grove(), house.goal())))

    def test_places(self):
        draw = random_source(314)
        for grove in (mixed_grove(), twin_roots_grove(), large_grove(draw)):
            console = Console(House(grove))
            for place, name in grove.table():
                self.say(console, f"at {place[0]} {place[1]}", name)
                self.say(console, f"where {name}", f"{place[0]} {place[1]}")
                console.say(f"nail {place[0]} {place[1]}")
            self.say(console, "nails", ", ".join(f"{name} {n}" for (name, n), _ in grove.table()))

    def test_paid(self):
        """The colours of the book in its order, those in which nothing was paid left out."""
        book = Book([("z", "zz", ()), ("a", "aa", ("zz", "zz", "mm", "mm")), ("m", "mm", ())])
        bag = Bag(book, [("a", "a"), ("m1", "m"), ("m2", "m"), ("z1", "z"), ("z2", "z")])
        console = Console(House(Grove(bag, ("aa",), (("a", ("z1",), ("z2",), ("m1",), ("m2",)),))))
        self.say(console, "paid", "")
        self.say(console, "hang a 2 a 3", "1")
        self.say(console, "paid", "mm 1")
        self.say(console, "hang a 0 a 1", "2")
        self.say(console, "paid", "zz 1, mm 1")
        for _ in range(11):
            console.say("hang a 0 a 1")
        self.say(console, "paid", "zz 12, mm 1")
        self.say(console, "undo", "12")
        self.say(console, "paid", "zz 11, mm 1")

    def test_marks(self):
        console = Console(sample_house())
        self.say(console, "keep a", "1")
        self.say(console, "keep b", "2")
        self.say(console, "keep a", "2")
        self.say(console, "keep root", "3")
        self.say(console, "keep keep", "4")
        self.say(console, "hang p 1 q 0", "1")
        self.say(console, "to keep", "1")
        self.assertEqual(console.house().marks(), ["a", "b", "root", "keep"])

    def test_blanks_and_line_feeds(self):
        draw = random_source(315)
        for line in LINES:
            right = sample_house(HANG)
            right.keep("mark")
            answer = Console(right).say(line)
            lexemes = [lexeme for lexeme, _ in plain_lexemes(line)[0]]
            for k in range(8):
                house = sample_house(HANG)
                house.keep("mark")
                loose = written(lexemes, draw if k else None)
                self.say(Console(house), loose, answer)
                self.assert_equal_objects(house, right)
        # With none where none is needed.
        self.say(Console(sample_house()), "hang p 1q 0", "1")
        self.say(Console(sample_house()), "plant(m b,n z)m(n)", "1")
        self.say(Console(sample_house()), "graft q 0(m b)m(;)", "1")
        self.say(Console(sample_house()), "goal{p(q(y),r(z));}", "1")
        self.say(Console(sample_house()), "\n\n fell\n0 \n", "1")

    def test_names_that_are_words_of_forms(self):
        book = Book(PLAIN_BOOK)
        names = [name for name in WORDS if name not in ("goal", "to")]
        joints = [(name, "b") for name in names] + [("goal", "z"), ("to", "z"), ("none", "z")]
        bush = ("goal",)
        for name in reversed(names):
            bush = (name, bush)
        console = Console(House(Grove(Bag(book, joints), ("c", "c", "c"), (bush, ("to",), ("none",)))))
        for line, answer in (
            ("where hang", "root 0"), ("where to", "root 1"), ("where where", "at 0"), ("at at 0", "where"),
            ("at where 0", "nails"), ("hang hang 0 root 1", "1"), ("at hang 0", "to"), ("undo", "0"),
            ("nail nail 0", "1"), ("free nail 0", "2"), ("keep undo", "1"), ("to undo", "0"), ("at nails 0", "goal"),
            ("plant (none1 t, show1 z, book z) none1(show1, book)", "3"), ("fell 3", "4"),
            ("stretch keep 0 show 0 root 1 root 1", "5"), ("where show", "root 1"),
            ("graft goal 0 () goal", "no BadAct place"), ("graft to 0 () plant(;)", "no BadAct place"),
            ("graft left 0 (script b) script(;)", "6"), ("at script 0", "paid"), ("at root 2", "none"),
            ("prune hang 0 stretch 0", "7"), ("where stretch", "no UnknownName"), ("where show", "root 1"),
        ):
            self.say(console, line, answer)


def written_deed(deed):
    return deed[0] + "".join(f" {name} {number}" for name, number in deed[1:])


class TestErrors(ConsoleCase):
    def test_each_error(self):
        house = sample_house(HANG)
        house.keep("mark")
        console = Console(house)
        for line, answer in (
            ("redo", "no NothingDone"), ("at p 2", "no UnknownName"), ("at nobody 0", "no UnknownName"),
            ("at root 1", "no UnknownName"), ("at p 7777777777777777777777777777777777777777", "no UnknownName"),
            ("where nobody", "no UnknownName"), ("where root", "no UnknownName"), ("to nobody", "no UnknownName"),
            ("to p", "no UnknownName"), ("hang p 0 q 0", "no BadAct deed"),
            ("stretch p 0 p 0 p 1 p 1", "no BadAct deed"),
            ("hang p 0 p 2", "no BadAct deed"), ("nail p 2", "no BadAct place"), ("free p 0", "no BadAct place"),
            ("fell 1", "no BadAct place"), ("fell 9999999999999999999999999999999999999999", "no BadAct place"),
            ("prune q 0 p 0", "no BadAct place"), ("goal { }", "no BadAct grove"), ("goal { p; }", "no BadAct grove"),
            ("goal { p(q(r(z)), y); p; }", "no BadAct grove"), ("plant () p", "no BadAct bush"),
            ("plant (p z) p", "no BadAct joints"), ("plant (root z) root", "no BadAct joints"),
            ("plant (m y) m", "no BadAct joints"), ("plant (m z, m z) m", "no BadAct joints"),
            ("plant (m z) n", "no BadAct bush"), ("plant (m b) m", "no BadAct bush"),
            ("graft z 0 () m", "no BadAct place"),
            ("graft q 0 (m b) m", "no BadAct bush"), ("graft q 0 (m b) m(;, ;)", "no BadAct bush"),
            ("graft q 0 (m z) m(;)", "no BadAct bush"), ("graft q 0 (m red) m(;)", "no BadAct joints"),
            ("", "no BadText 0"), (" \n", "no BadText 2"), ("goal {", "no BadText 6"), ("shows", "no BadText 0"),
            ("show show", "no BadText 5"), ("show;", "no BadText 4"), ("Show", "no BadText 0"),
            ("show\t", "no BadText 4"),
        ):
            known = house.twin()
            self.say(console, line, answer)
            self.assert_equal_objects(house, known)
            self.assertEqual(state_of(house), state_of(known))
        # Behind undone acts, too.
        self.say(console, "undo", "0")
        for line, answer in (
            ("undo", "no NothingDone"), ("hang p 0 q 0", "no BadAct deed"), ("x", "no BadText 0"),
            ("where nobody", "no UnknownName"), ("fell 1", "no BadAct place"),
        ):
            self.say(console, line, answer)
            self.assertEqual((house.done(), house.undone()), ([], [HANG]))

    def test_unlike_groves(self):
        console = Console(sample_house())
        for line, answer in (
            ("keep mark", "1"), ("plant (m z) m", "1"), ("to mark", "no UnlikeGroves"), ("keep more", "2"),
            ("fell 1", "2"), ("to mark", "0"), ("to more", "no UnlikeGroves"),
        ):
            self.say(console, line, answer)

    def test_nails_and_goals(self):
        house = sample_house(NAIL, ("nail", ("p", 1)))
        console = Console(house)
        for line, answer in (
            ("hang p 1 q 0", "no BadAct nail"), ("nail root 0", "no BadAct place"),
            ("goal {p(q(y), r(z));}", "no BadAct nail"),
            ("graft p 1 (m b) m(;)", "no BadAct nail"), ("prune p 1 p 1", "no BadAct place"), ("free p 1", "3"),
            ("goal {p(q(y), r(z));}", "4"), ("nail p 1", "no BadAct goal"), ("nail p 0", "5"),
        ):
            self.say(console, line, answer)

    def test_too_many(self):
        house = sample_house()
        console = Console(house)
        for k in range(5):
            self.say(console, f"plant (n{k} z) n{k}", str(k + 1))
        self.say(console, "plant (n z) n", "no BadAct many")
        for k in range(5, 120):
            self.say(console, "hang root 1 root 2", str(k + 1))
        self.say(console, "hang root 1 root 2", "no BadAct many")
        self.say(console, "fell 9", "no BadAct place")
        self.say(console, "goal", "no BadAct many")
        self.say(console, "undo", "119")
        with self.assertRaises(BadAct):
            house.tried([HANG, HANG])
        self.say(console, "goal", "120")


class TestWrongPlaces(ConsoleCase):
    def look(self, line):
        """The answer tells the first wrong place, or no place at all where there is none."""
        house = sample_house()
        told = Console(house).say(line)
        wrong = first_wrong(line)
        if wrong is None:
            self.assertFalse(told.startswith("no BadText"), (line, told))
            return False
        self.assertEqual(told, f"no BadText {wrong}", line)
        self.assert_equal_objects(house, sample_house())
        return True

    def test_lines_that_are_right(self):
        for line in LINES:
            self.assertFalse(self.look(line))

    def test_lines_that_are_cut_off(self):
        for line in LINES:
            for k in range(len(line)):
                self.look(line[:k])
                self.look(line[:k] + " \n")
                self.look(line[k:])
                self.look(line[:k] + line[k + 1:])

    def test_lines_that_go_on_too_long(self):
        for line in LINES:
            for lexeme in LEXEMES:
                self.look(line + " " + lexeme)
                self.look(line + lexeme)
                self.look(lexeme + " " + line)
            for other in LINES[::3]:
                self.look(line + "\n" + other)

    def test_odd_signs(self):
        for line in LINES:
            for k in range(len(line) + 1):
                for sign in ("\t", "A", ":", "-", ".", "~", '"', "[", "x" * 13):
                    self.look(line[:k] + sign + line[k:])
                    self.look(line[:k] + " " + sign + " " + line[k:])

    def test_other_lexemes_anywhere(self):
        for line in LINES:
            lexemes = [lexeme for lexeme, _ in plain_lexemes(line)[0]]
            for k in range(len(lexemes)):
                for lexeme in LEXEMES + ("goal", "show", "hang"):
                    self.look(" ".join(lexemes[:k] + [lexeme] + lexemes[k + 1:]))
                    self.look(" ".join(lexemes[:k] + [lexeme] + lexemes[k:]))
                self.look(" ".join(lexemes[:k] + lexemes[k + 1:]))

    def test_the_first_words(self):
        for word in WORDS:
            self.look(word)
            self.look(word + "x")
            self.look(word.upper())
            self.look(word + " p")
            self.look(word + " 0")
            self.look(word + "0")
        for word in ("waste", "quit", "book", "script", "bag", "grove", "plain", "joint", "none", "no", "marks"):
            self.look(word)
            self.say(Console(sample_house()), word, "no BadText 0")
            self.say(Console(sample_house()), " " + word + " p 0", "no BadText 1")

    def test_numbers(self):
        self.say(Console(sample_house()), "fell 00", "no BadText 6")
        self.say(Console(sample_house()), "fell 01", "no BadText 6")
        self.say(Console(sample_house()), "hang p 01 q 0", "no BadText 8")
        self.say(Console(sample_house()), "hang p 1 q 00", "no BadText 12")
        self.say(Console(sample_house()), "at p 1x", "no BadText 6")
        self.say(Console(sample_house()), "fell -1", "no BadText 5")

    def test_semicolons_in_bushes(self):
        """None may stand within the brackets of a graft's bush, and nowhere else."""
        for line, right in (
            ("graft q 0 (m b) ;", False), ("graft q 0 (m b) m(;)", True), ("graft q 0 (m b) m(;);", False),
            ("graft q 0 (m b) m(;;)", False), ("graft q 0 (m b) m(;, ;)", True), ("graft q 0 (m b) m(n;)", False),
            ("graft q 0 (m b) m(n(;))", True), ("graft q 0 (m b) m(;(n))", False), ("plant (m b) m(;)", False),
            ("plant (m b) m;", False), ("goal { m(;); }", False), ("goal { ; }", False), ("goal { m }", False),
            ("goal m;", False), ("graft q 0 (;) m(;)", False), ("graft q 0 (m b) m()", False),
            ("plant (m b,) m", False),
            ("plant (m) m", False), ("plant m b m", False), ("graft q (m b) m(;)", False), ("plant () m()", False),
        ):
            self.assertIs(self.look(line), not right, line)

    def test_long_lines(self):
        many = 1500
        line = "plant (" + ", ".join(f"j{k} z" for k in range(many)) + ") j0"
        self.say(Console(sample_house()), line, "no BadAct bush")
        self.look(line[:-4])
        line = "goal {" + "m;" * 6000 + "}"
        self.say(Console(sample_house()), line, "no BadAct grove")
        self.look(line[:-1])
        deep = "plant (" + ", ".join(f"j{k} b" for k in range(54)) + ", end z) "
        deep += "(".join(f"j{k}" for k in range(54)) + "(end" + ")" * 54
        self.say(Console(sample_house()), deep, "1")
        deep = "graft q 0 (" + ", ".join(f"j{k} b" for k in range(55)) + ") "
        deep += "(".join(f"j{k}" for k in range(55)) + "(;" + ")" * 55
        house = sample_house()
        self.say(Console(house), deep, "1")
        self.assertEqual(len(house.grove().walk()), 60)
        self.say(Console(house), "prune q 0 j54 0", "2")
        self.assertEqual(house.grove(), sample_grove())
        self.say(Console(sample_house()), "goal {" + "m(" * 60 + "m" + ")" * 60 + ";}", "no BadAct grove")


class TestConsoles(ConsoleCase):
    def test_two_consoles_of_one_house(self):
        house = joined(sample_house(), other_house())
        one, other = Console(house), Console(house)
        self.assertIs(one.house(), other.house())
        for console, line, answer in (
            (one, "hang p 1 q 0", "1"), (other, "show", "p(q(y), r(z)); u; s(v, t(w))"), (other, "undo", "0"),
            (one, "redo", "1"), (other, "nail root 2", "2"), (one, "nails", "root 2"), (one, "keep mark", "1"),
            (other, "to mark", "0"), (other, "keep more", "2"), (one, "fell 2", "3"), (other, "nails", ""),
        ):
            self.say(console, line, answer)
        # What is done to the house itself is seen, too.
        house.undo()
        self.say(other, "show", "p(q(y), r(z)); u; s(v, t(w))")
        self.assertEqual(len(house.done()), 2)

    def test_asking_changes_nothing(self):
        house = sample_house(HANG, GOAL, MOVE, NAIL, FREE)
        house.keep("mark")
        house.undo()
        known, console = house.twin(), Console(house)
        for line in ("show", "left", "paid", "way", "at p 0", "where q", "to mark", "nails"):
            self.assertEqual(console.say(line), console.say(line))
            self.assert_equal_objects(house, known)


if __name__ == "__main__":
    unittest.main()
