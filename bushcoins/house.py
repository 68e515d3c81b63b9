"""Houses: a grove in which joints come and go, with what was done and can be undone."""

from bushcoins.acts import after, in_order
from bushcoins.bags import ROOT, Bag
from bushcoins.between import first_deeds
from bushcoins.coins import coins, way
from bushcoins.errors import BadAct, NothingDone, UnknownName, UnlikeGroves
from bushcoins.goals import waste
from bushcoins.groves import Grove
from bushcoins.pieces import HANG, STRETCH
from bushcoins.scripts import price
from bushcoins.words import is_index, is_word

MOST_ACTS = 120
GOAL = "goal"


class House:
    """A house: its stands from the first one to the present one, its acts, and its marks."""

    def __init__(self, grove):
        self._stands = [(grove, (), None)]
        self._done = []
        self._undone = []
        self._marks = {}

    def grove(self):
        """Return the present grove."""
        return self._stands[-1][0]

    def goal(self):
        """Return the goal, or None."""
        return self._stands[-1][2]

    def nails(self):
        """Return the list of the nailed places, in order."""
        return list(self._stands[-1][1])

    def stand(self):
        """Return the present stand."""
        return self._stands[-1]

    def _stands_behind(self, acts):
        """Return the list of the present stand and of the stands behind each of acts, done one after another."""
        found = [self._stands[-1]]
        for k, act in enumerate(acts):
            stand = after(found[-1], act)
            if len(self._done) + k >= MOST_ACTS:
                raise BadAct("many")
            found.append(stand)
        return found

    def do(self, act):
        """Do an act, which may be anything, and return the number of done acts."""
        return self.tried([act])

    def undo(self):
        """Undo the last done act, and return the number of done acts."""
        if not self._done:
            raise NothingDone()
        self._undone.insert(0, self._done.pop())
        self._stands.pop()
        return len(self._done)

    def redo(self):
        """Do the first undone act again, and return the number of done acts."""
        if not self._undone:
            raise NothingDone()
        self._stands.append(after(self._stands[-1], self._undone[0]))
        self._done.append(self._undone.pop(0))
        return len(self._done)

    def done(self):
        """Return the list of the done acts."""
        return list(self._done)

    def undone(self):
        """Return the list of the undone acts, the first one that would be done again first."""
        return list(self._undone)

    def tried(self, acts):
        """Do all acts of a list, or none if one of them is refused; return the number of done acts."""
        stands = self._stands_behind(acts)
        if len(stands) > 1:
            self._stands.extend(stands[1:])
            self._done.extend(acts)
            self._undone = []
        return len(self._done)

    def would(self, acts):
        """Return the stand behind all acts of a list, and do none of them."""
        return self._stands_behind(acts)[-1]

    def _deeds_from(self, start):
        """Return the list of the pairs of a grove and the deed that was done at it, from the act with a number on."""
        rows = list(zip(self._stands[start:], self._done[start:]))
        return [(stand[0], act) for stand, act in rows if act[0] in (HANG, STRETCH)]

    def paid(self):
        """Return the list of the pairs of a colour of the book and the coins that the done deeds cost in it."""
        found = {colour: 0 for colour in self.grove().bag().book().colours()}
        for grove, deed in self._deeds_from(0):
            for colour, many in price(grove.bag(), grove.roots(), [deed]):
                found[colour] += many
        return list(found.items())

    def left(self):
        """Return the coins from the grove to the goal, or None without a goal."""
        return None if self.goal() is None else coins(self.grove(), self.goal())

    def waste(self):
        """Return the coins that were paid since the goal was told and led no nearer to it, or None without a goal."""
        if self.goal() is None:
            return None
        # The stand behind the act that told the goal, or the first one.
        start = max([k + 1 for k, act in enumerate(self._done) if act[0] == GOAL], default=0)
        script = [deed for _, deed in self._deeds_from(start)]
        return waste(self._stands[start][0], self.goal(), script)

    def way(self):
        """Return a fewest way from the grove to the goal, or None without a goal."""
        return None if self.goal() is None else way(self.grove(), self.goal())

    def next_deeds(self):
        """Return the list of the deeds that begin a fewest way to the goal, or None without a goal."""
        return None if self.goal() is None else first_deeds(self.grove(), self.goal())

    def keep(self, name):
        """Keep the present grove under a name, which may be anything, in the place of what it had."""
        if not is_word(name):
            raise UnknownName(name)
        self._marks[name] = self.grove()

    def marks(self):
        """Return the list of the names of the marks, in the order in which they first were kept."""
        return list(self._marks)

    def marked(self, name):
        """Return the grove that is kept under a name, which may be anything."""
        # Only a string is looked up: other values may be no keys.
        if not isinstance(name, str) or name not in self._marks:
            raise UnknownName(name)
        return self._marks[name]

    def coins_to(self, name):
        """Return the coins from the present grove to a mark, whose name may be anything."""
        return coins(self.grove(), self.marked(name))

    def twin(self):
        """Return an equal house, with the same past, that goes its own way."""
        found = House(self.grove())
        found._stands = list(self._stands)
        found._done = list(self._done)
        found._undone = list(self._undone)
        found._marks = dict(self._marks)
        return found

    def __eq__(self, other):
        if not isinstance(other, House) or self._stands[0] != other._stands[0]:
            return False
        if self._done != other._done or self._undone != other._undone:
            return False
        return list(self._marks.items()) == list(other._marks.items())


def begun(stand):
    """Return a house that begins with a stand."""
    found = House(stand[0])
    found._stands = [stand]
    return found


def shifted(place, by):
    """Return a place, a root's with a number that is greater by so many."""
    return (ROOT, place[1] + by) if place[0] == ROOT else place


def both(bag, one, other):
    """Return the grove of a bag with the roots and bushes of two groves, one behind the other."""
    return Grove(bag, one.roots() + other.roots(), one.bushes() + other.bushes())


def joined(one, other):
    """Return a house with what stands in two houses."""
    bag = one.grove().bag()
    more = other.grove().bag()
    if bag.book() != more.book() or any([name in bag.names() for name in more.names()]):
        raise UnlikeGroves()
    whole = Bag(bag.book(), bag.joints() + more.joints())
    grove = both(whole, one.grove(), other.grove())
    nails = one.nails() + [shifted(place, len(one.grove().roots())) for place in other.nails()]
    goal = None
    if one.goal() is not None and other.goal() is not None:
        goal = both(whole, one.goal(), other.goal())
    return begun((grove, in_order(grove, nails), goal))


def part_of(grove, first, last, bag):
    """Return the grove of a bag with those roots and bushes of a grove that come from first on and ahead of last."""
    return Grove(bag, grove.roots()[first:last], grove.bushes()[first:last])


def names_from(grove, first, last):
    """Return the ascending list of the names of the joints that hang at the roots from first on and ahead of last."""
    return sorted([name for n in range(first, last) for name in grove.names((ROOT, n))])


def part_stand(stand, first, last):
    """Return what a stand has at the roots from first on and ahead of last, as a stand."""
    grove, nails, goal = stand
    names = names_from(grove, first, last)
    old = grove.bag()
    bag = Bag(old.book(), [joint for joint in old.joints() if joint[0] in names])
    part = part_of(grove, first, last, bag)
    # Roots ahead of the first one get numbers below 0, which no place has.
    nailed = in_order(part, [shifted(place, -first) for place in nails])
    if goal is None or names_from(goal, first, last) != names:
        return (part, nailed, None)
    return (part, nailed, part_of(goal, first, last, bag))


def parted(house, number):
    """Return the pair of houses with the first roots of a house, so many, and with its other ones."""
    many = len(house.grove().roots())
    if not is_index(number, many + 1):
        raise UnknownName(number)
    stand = house.stand()
    return (begun(part_stand(stand, 0, number)), begun(part_stand(stand, number, many)))
