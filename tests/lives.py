"""Houses, and ledgers that keep what should stand in them."""

from bushcoins.acts import after
from bushcoins.bags import Bag
from bushcoins.coins import coins
from bushcoins.groves import Grove
from bushcoins.house import House
from tests.oracles import Surgery
from tests.samples import sample_book, sample_grove
from tests.yards import any_act

HANG = ("hang", ("p", 1), ("q", 0))
MOVE = ("stretch", ("p", 0), ("q", 0), ("p", 1), ("p", 1))
NAIL = ("nail", ("root", 0))
FREE = ("free", ("root", 0))
PLANT = ("plant", (("m", "b"), ("n", "z")), ("m", ("n",)))
FELL = ("fell", 1)
GOAL = ("goal", (("p", ("q", ("y",)), ("r", ("z",))),))
BAD = ("hang", ("p", 0), ("q", 0))


def sample_house(*acts):
    house = House(sample_grove())
    for act in acts:
        house.do(act)
    return house


def other_house(*acts):
    """A house of the same book without a common name."""
    bag = Bag(sample_book(), [("u", "z"), ("s", "a"), ("t", "b"), ("v", "z"), ("w", "z")])
    house = House(Grove(bag, ("blue", "red"), (("u",), ("s", ("v",), ("t", ("w",))))))
    for act in acts:
        house.do(act)
    return house


def state_of(house):
    """All that a house tells of itself."""
    return (
        house.grove(), house.goal(), house.nails(), house.stand(), house.done(), house.undone(),
        [(name, house.marked(name)) for name in house.marks()], house.paid(), house.left(), house.waste(), house.way(),
    )


class Ledger:
    """What should stand in a house, by going from its first stand on after each act."""

    def __init__(self, stand):
        self.first = stand
        self.done = []
        self.undone = []
        self.marks = {}

    def stands(self):
        found = [self.first]
        for act in self.done:
            found.append(after(found[-1], act))
        return found

    def do(self, act):
        self.done.append(act)
        self.undone = []

    def undo(self):
        self.undone.insert(0, self.done.pop())

    def redo(self):
        self.done.append(self.undone.pop(0))

    def paid(self):
        found = {colour: 0 for colour in self.first[0].bag().book().colours()}
        for (grove, _, _), act in zip(self.stands(), self.done):
            if act[0] in ("hang", "stretch"):
                for colour in Surgery(grove.bag(), grove.roots(), grove.bushes()).paid(act):
                    found[colour] += 1
        return list(found.items())

    def waste(self):
        stands = self.stands()
        goal = stands[-1][2]
        if goal is None:
            return None
        start = len(self.done)
        while start and self.done[start - 1][0] != "goal":
            start -= 1
        paid = sum({"hang": 1, "stretch": 2}.get(act[0], 0) for act in self.done[start:])
        return paid - coins(stands[start][0], goal) + coins(stands[-1][0], goal)

    def check(self, case, house):
        """The house has just what stands here."""
        stand = self.stands()[-1]
        case.assertEqual(house.stand(), stand)
        case.assertEqual((house.grove(), tuple(house.nails()), house.goal()), stand)
        case.assertEqual((house.done(), house.undone()), (self.done, self.undone))
        case.assertEqual(house.marks(), list(self.marks))
        for name, grove in self.marks.items():
            case.assertEqual(house.marked(name), grove)
        case.assertEqual(house.paid(), self.paid())
        case.assertEqual(house.waste(), self.waste())
        if stand[2] is None:
            case.assertEqual((house.left(), house.way(), house.next_deeds()), (None, None, None))
        else:
            case.assertEqual(house.left(), coins(stand[0], stand[2]))


def live(draw, house, ledger, many, serial, after_each):
    """Let house and ledger do, undo, redo and keep so many times."""
    for k in range(many):
        step = draw.random()
        if step < 0.15 and ledger.done:
            house.undo()
            ledger.undo()
        elif step < 0.25 and ledger.undone:
            house.redo()
            ledger.redo()
        elif step < 0.32:
            name = draw.choice(("one", "two", "root"))
            house.keep(name)
            ledger.marks[name] = house.grove()
        else:
            act = any_act(draw, house.stand(), f"{serial}{k}x")
            house.do(act)
            ledger.do(act)
        after_each()
