"""Acts as the document's words tell them, done by cutting bushes; any acts, and spoilt ones."""

from bushcoins.bags import Bag
from bushcoins.groves import Grove
from tests.lands import any_deed
from tests.oracles import Surgery, is_plain_word, table_of
from tests.samples import random_plain

MEMBERS = {
    "hang": 3, "stretch": 5, "nail": 2, "free": 2, "goal": 2, "plant": 3, "fell": 2, "graft": 4, "prune": 3,
}


def bush_at(bushes, place):
    """The bush that stands at a place."""
    if place[0] == "root":
        return bushes[place[1]]
    for bush in bushes:
        if bush[0] == place[0]:
            return bush[place[1] + 1]
        found = bush_at(bush[1:], place)
        if found is not None:
            return found
    return None


def put_at(bushes, place, new):
    """The bushes with another one at a place."""
    if place[0] == "root":
        return tuple(new if n == place[1] else bush for n, bush in enumerate(bushes))
    found = []
    for bush in bushes:
        if bush[0] == place[0]:
            found.append(bush[:place[1] + 1] + (new,) + bush[place[1] + 2:])
        else:
            found.append((bush[0],) + put_at(bush[1:], place, new))
    return tuple(found)


def names_in(bush):
    return [bush[0]] + [name for part in bush[1:] for name in names_in(part)]


def with_part(bush, part):
    """A bush with a part in the place of None."""
    if bush is None:
        return part
    return (bush[0],) + tuple(with_part(each, part) for each in bush[1:])


class Yard:
    """A stand, taken apart."""

    def __init__(self, stand):
        self.grove, self.nails, self.goal = stand
        self.bag = self.grove.bag()
        self.book = self.bag.book()
        self.roots = tuple(self.grove.roots())
        self.bushes = tuple(self.grove.bushes())
        self.surgery = Surgery(self.bag, self.roots, self.bushes)
        self.places = self.surgery.places
        self.table = table_of(self.bushes)

    def is_place(self, value):
        if type(value) is not tuple or len(value) != 2:
            return False
        return type(value[0]) is str and type(value[1]) is int and value in self.places

    def colour(self, place):
        return self.surgery.colour(place)

    def word(self, act):
        """The word of S10.3, or None."""
        if type(act) is not tuple or not act or type(act[0]) is not str or act[0] not in MEMBERS:
            return "form"
        if len(act) != MEMBERS[act[0]]:
            return "form"
        return {
            "hang": self.deed_word, "stretch": self.deed_word, "nail": self.nail_word, "free": self.nail_word,
            "goal": self.goal_word, "plant": self.plant_word, "fell": self.fell_word, "graft": self.graft_word,
            "prune": self.prune_word,
        }[act[0]](act)

    def deed_word(self, act):
        if not all(self.is_place(place) for place in act[1:]) or not self.surgery.can(act):
            return "deed"
        behind = table_of(self.surgery.done(act))
        return "nail" if [place for place in self.nails if behind[place] != self.table[place]] else None

    def nail_word(self, act):
        if not self.is_place(act[1]) or (act[1] in self.nails) != (act[0] == "free"):
            return "place"
        if self.goal is not None and self.goal.joint(act[1]) != self.table[act[1]]:
            return "goal"
        return None

    def is_grove(self, bushes):
        if type(bushes) is not tuple:
            return False
        try:
            Grove(self.bag, self.roots, bushes)
        except ValueError:
            return False
        return True

    def goal_word(self, act):
        if act[1] is None:
            return None
        if not self.is_grove(act[1]):
            return "grove"
        told = table_of(act[1])
        return "nail" if [place for place in self.nails if told[place] != self.table[place]] else None

    def joints_wrong(self, joints):
        if type(joints) is not tuple:
            return True
        known = list(self.bag.names())
        for joint in joints:
            if type(joint) is not tuple or len(joint) != 2:
                return True
            name, word = joint
            if not is_plain_word(name) or name == "root" or name in known:
                return True
            if type(word) is not str or word not in self.book.words():
                return True
            known.append(name)
        return False

    def open_colours(self, bush, joints):
        """The colours of the places with None in a bush of just these joints; None if it is no such bush."""
        words = dict(joints)
        met, found = [], []

        def look_at(part, colour):
            if type(part) is not tuple or not part or type(part[0]) is not str:
                return False
            if part[0] not in words or part[0] in met:
                return False
            met.append(part[0])
            _, stem, branches = self.book.shape(words[part[0]])
            if colour not in (None, stem) or len(part) != len(branches) + 1:
                return False
            for below, branch in zip(part[1:], branches):
                if below is None:
                    found.append(branch)
                elif not look_at(below, branch):
                    return False
            return True

        return found if look_at(bush, None) and len(met) == len(words) else None

    def too_many(self, joints, roots):
        return len(self.bag.names()) + len(joints) > 60 or roots > 6

    def plant_word(self, act):
        _, joints, bush = act
        if self.joints_wrong(joints):
            return "joints"
        if self.open_colours(bush, joints) != []:
            return "bush"
        return "many" if self.too_many(joints, len(self.roots) + 1) else None

    def graft_word(self, act):
        _, place, joints, bush = act
        if not self.is_place(place):
            return "place"
        if place in self.nails:
            return "nail"
        if self.joints_wrong(joints):
            return "joints"
        colour = self.colour(place)
        if self.open_colours(bush, joints) != [colour] or self.book.stem(dict(joints)[bush[0]]) != colour:
            return "bush"
        return "many" if self.too_many(joints, len(self.roots)) else None

    def fell_word(self, act):
        return None if type(act[1]) is int and 0 <= act[1] < len(self.roots) else "place"

    def prune_word(self, act):
        _, s, t = act
        if not self.is_place(s) or not self.is_place(t) or not self.surgery.is_above(s, t):
            return "place"
        if self.colour(s) != self.colour(t):
            return "place"
        return "nail" if s in self.nails else None

    def stand_of(self, joints, roots, bushes, nails, goal=None):
        grove = Grove(Bag(self.book, joints), roots, bushes)
        order = Surgery(grove.bag(), grove.roots(), grove.bushes()).places
        return (grove, tuple(place for place in order if place in nails), goal)

    def behind(self, act):
        """The stand to which an act leads."""
        joints, nails = self.bag.joints(), list(self.nails)
        kept = (self.roots, self.bushes)
        if act[0] in ("hang", "stretch"):
            return self.stand_of(joints, self.roots, self.surgery.done(act), nails, self.goal)
        if act[0] == "nail":
            return self.stand_of(joints, *kept, nails + [act[1]], self.goal)
        if act[0] == "free":
            return self.stand_of(joints, *kept, [place for place in nails if place != act[1]], self.goal)
        if act[0] == "goal":
            goal = None if act[1] is None else Grove(self.bag, self.roots, act[1])
            return self.stand_of(joints, *kept, nails, goal)
        if act[0] == "plant":
            root = self.book.stem(dict(act[1])[act[2][0]])
            return self.stand_of(joints + list(act[1]), self.roots + (root,), self.bushes + (act[2],), nails)
        if act[0] == "graft":
            bush = with_part(act[3], bush_at(self.bushes, act[1]))
            return self.stand_of(joints + list(act[2]), self.roots, put_at(self.bushes, act[1], bush), nails)
        if act[0] == "prune":
            bushes = put_at(self.bushes, act[1], bush_at(self.bushes, act[2]))
            left = [name for bush in bushes for name in names_in(bush)]
            return self.stand_of([joint for joint in joints if joint[0] in left], self.roots, bushes, nails)
        return self.felled(joints, nails, act[1])

    def felled(self, joints, nails, n):
        gone = names_in(self.bushes[n])
        moved = []
        for place in nails:
            if place[0] != "root":
                moved.append(place)
            elif place[1] != n:
                moved.append(("root", place[1] - (place[1] > n)))
        return self.stand_of(
            [joint for joint in joints if joint[0] not in gone], self.roots[:n] + self.roots[n + 1:],
            self.bushes[:n] + self.bushes[n + 1:], moved,
        )


def new_bush(draw, yard, colour, most, first):
    """Joints with new names and a bush of these; the stem of its first joint has the colour."""
    plain = random_plain(draw, yard.book, (colour,), most)[0]
    joints = []

    def named(part):
        name = f"{first}{len(joints)}"
        joints.append((name, part[0]))
        return (name,) + tuple(named(each) for each in part[1:])

    bush = named(plain)
    draw.shuffle(joints)
    return tuple(joints), bush


def opened(draw, yard, joints, bush, colour):
    """The joints and the bush with None at some place of the colour, or None if there is none."""
    words = dict(joints)
    places = [
        (name, n) for name, word in joints for n, branch in enumerate(yard.book.branches(word)) if branch == colour
    ]
    if not places:
        return None
    place = draw.choice(places)
    gone = names_in(bush_at((bush,), place))
    left = put_at((bush,), place, None)[0]
    return tuple(joint for joint in joints if joint[0] not in gone and joint[0] in words), left


def any_act(draw, stand, serial, most=3):
    """Any act that can be done at a stand, of any kind; serial makes the names of new joints new."""
    yard = Yard(stand)
    while True:
        act = tried_act(draw, yard, stand, serial, most)
        if act is not None and yard.word(act) is None:
            return act


def tried_act(draw, yard, stand, serial, most):
    """An act of any kind, that can be done or not, or None."""
    word = draw.choice(list(MEMBERS) + ["hang", "stretch", "goal", "nail"])
    place = draw.choice(yard.places) if yard.places else None
    if word in ("hang", "stretch"):
        return any_deed(draw, stand[0]) if place else None
    if word in ("nail", "free"):
        return (word, place)
    if word == "goal":
        return any_goal(draw, stand)
    if word == "fell":
        return (word, draw.randrange(len(yard.roots))) if yard.roots and draw.random() < 0.4 else None
    if word == "prune":
        pairs = [(s, t) for t in yard.places for s in stand[0].above(t) if yard.colour(s) == yard.colour(t)]
        return (word,) + draw.choice(pairs) if pairs else None
    if word == "plant":
        colour = draw.choice([shape[1] for shape in yard.book.shapes()])
        return (word,) + new_bush(draw, yard, colour, most, f"{serial}n") if draw.random() < 0.5 else None
    if place is None:
        return None
    joints, bush = new_bush(draw, yard, yard.colour(place), most, f"{serial}n")
    told = opened(draw, yard, joints, bush, yard.colour(place))
    return None if told is None else (word, place) + told


def any_goal(draw, stand):
    """A goal some deeds away from the grove that touch no nailed place."""
    if draw.random() < 0.15:
        return ("goal", None)
    grove = stand[0]
    for _ in range(draw.randrange(5)):
        deed = any_deed(draw, grove) if grove.walk() else None
        if deed is not None and Yard((grove, stand[1], None)).word(deed) is None:
            grove = Grove(grove.bag(), grove.roots(), Yard((grove, (), None)).surgery.done(deed))
    return ("goal", tuple(grove.bushes()))


def same_stand(case, told, right):
    """The two stands are equal, and of the right kinds."""
    case.assertEqual((type(told), len(told)), (tuple, 3))
    case.assertIs(type(told[0]), Grove)
    case.assertIs(type(told[1]), tuple)
    case.assertEqual(told[0].bag(), right[0].bag())
    case.assertEqual(told[0].roots(), right[0].roots())
    case.assertEqual(told[0].bushes(), right[0].bushes())
    case.assertEqual(told[1], right[1])
    case.assertEqual(told[2] is None, right[2] is None)
    case.assertEqual(told[2], right[2])
