"""Acts: why they are refused at a stand, and to which stand they lead."""

from bushcoins.bags import ROOT, Bag, colour_of, is_among, places_of, wrong_in_joint
from bushcoins.coins import touched
from bushcoins.deeds import moved
from bushcoins.errors import BadAct
from bushcoins.groves import Grove, grove_from, standing_in, wrong_grove
from bushcoins.heaps import filled, heap_roots, is_heap, open_places
from bushcoins.pieces import is_deed, is_stretch, joints_of
from bushcoins.words import is_index

MOST_JOINTS = 60
MOST_ROOTS = 6


def is_place(grove, value):
    """Return whether value, which may be anything, is a place of a grove."""
    return is_among({place: True for place, _ in grove.table()}, value)


def deed_word(stand, act):
    """Return the word of a deed, or None."""
    grove, nails, _ = stand
    if not is_deed(grove, act):
        return "deed"
    return "nail" if any([place in nails for place in touched(grove, act)]) else None


def nail_word(stand, act):
    """Return the word of an act that nails a place or frees it, or None."""
    grove, nails, goal = stand
    place = act[1]
    if not is_place(grove, place) or (place in nails) != (act[0] == "free"):
        return "place"
    return "goal" if goal is not None and goal.joint(place) != grove.joint(place) else None


def goal_word(stand, act):
    """Return the word of an act that tells a goal, or None."""
    grove, nails, _ = stand
    bushes = act[1]
    if bushes is None:
        return None
    bag = grove.bag()
    roots = grove.roots()
    if not isinstance(bushes, tuple) or wrong_grove(bag, roots, bushes) is not None:
        return "grove"
    goal = Grove(bag, roots, bushes)
    return "nail" if any([goal.joint(place) != grove.joint(place) for place in nails]) else None


def are_new(bag, joints):
    """Return whether joints, which may be anything, is a tuple of joints that may come to a bag."""
    if not isinstance(joints, tuple):
        return False
    words = {word: True for word in bag.book().words()}
    names = {name: True for name in bag.names()}
    for k, joint in enumerate(joints):
        if wrong_in_joint(joint, k, words, names) is not None:
            return False
        names[joint[0]] = True
    return True


def new_word(grove, joints, bush, colours, roots):
    """Return the word of new joints, which may be anything, and their bush, or None.

    colours is the list of the colours of the places in the bush that hold None, roots how many roots there would be.
    """
    bag = grove.bag()
    if not are_new(bag, joints):
        return "joints"
    new = Bag(bag.book(), joints)
    if not is_heap(new, (bush,)):
        return "bush"
    if [colour_of(new, (), place) for place in open_places(new, (bush,))] != colours:
        return "bush"
    # In a graft the stem has the colour of the place that holds None, too.
    if colours and heap_roots(new, (bush,)) != tuple(colours):
        return "bush"
    return "many" if len(bag.names()) + len(joints) > MOST_JOINTS or roots > MOST_ROOTS else None


def plant_word(stand, act):
    """Return the word of an act that plants a bush, or None."""
    grove = stand[0]
    _, joints, bush = act
    return new_word(grove, joints, bush, [], len(grove.roots()) + 1)


def graft_word(stand, act):
    """Return the word of an act that grafts a bush, or None."""
    grove, nails, _ = stand
    _, place, joints, bush = act
    if not is_place(grove, place):
        return "place"
    if place in nails:
        return "nail"
    roots = grove.roots()
    return new_word(grove, joints, bush, [colour_of(grove.bag(), roots, place)], len(roots))


def fell_word(stand, act):
    """Return the word of an act that fells a root, or None."""
    return None if is_index(act[1], len(stand[0].roots())) else "place"


def prune_word(stand, act):
    """Return the word of an act that prunes a stretch, or None."""
    grove, nails, _ = stand
    _, s, t = act
    if not is_stretch(grove, s, t) or s == t:
        return "place"
    bag = grove.bag()
    if colour_of(bag, grove.roots(), s) != colour_of(bag, grove.roots(), t):
        return "place"
    return "nail" if s in nails else None


def behind_deed(stand, act):
    """Return the stand behind a deed."""
    grove, nails, goal = stand
    return (moved(grove, act), nails, goal)


def in_order(grove, places):
    """Return the tuple of those of places that a grove has, in their order."""
    return tuple([place for place in places_of(grove.bag(), grove.roots()) if place in places])


def behind_nail(stand, act):
    """Return the stand behind an act that nails a place or frees it."""
    grove, nails, goal = stand
    if act[0] == "free":
        return (grove, tuple([place for place in nails if place != act[1]]), goal)
    return (grove, in_order(grove, nails + (act[1],)), goal)


def behind_goal(stand, act):
    """Return the stand behind an act that tells a goal."""
    grove, nails, _ = stand
    bushes = act[1]
    return (grove, nails, None if bushes is None else Grove(grove.bag(), grove.roots(), bushes))


def bag_with(bag, joints):
    """Return a bag with more joints at its end."""
    return Bag(bag.book(), [*bag.joints(), *joints])


def bag_without(bag, names):
    """Return a bag without the joints with these names."""
    return Bag(bag.book(), [joint for joint in bag.joints() if joint[0] not in names])


def behind_plant(stand, act):
    """Return the stand behind an act that plants a bush."""
    grove, nails, _ = stand
    _, joints, bush = act
    bag = bag_with(grove.bag(), joints)
    return (Grove(bag, (*grove.roots(), bag.stem(bush[0])), [*grove.bushes(), bush]), nails, None)


def behind_fell(stand, act):
    """Return the stand behind an act that fells a root."""
    grove, nails, _ = stand
    n = act[1]
    roots = grove.roots()
    bushes = grove.bushes()
    bag = bag_without(grove.bag(), grove.names((ROOT, n)))
    left = Grove(bag, roots[:n] + roots[n + 1:], bushes[:n] + bushes[n + 1:])
    kept = [place for place in nails if place != (ROOT, n)]
    moved_up = [(ROOT, place[1] - 1) if place[0] == ROOT and place[1] > n else place for place in kept]
    return (left, in_order(left, moved_up), None)


def behind_graft(stand, act):
    """Return the stand behind an act that grafts a bush."""
    grove, nails, _ = stand
    _, place, joints, bush = act
    table = {other: name for other, name in grove.table()}
    # What hangs at the place comes along with its first joint.
    for other, name in standing_in([filled(bush, [(table[place],)])]).items():
        if other[0] != ROOT:
            table[other] = name
    table[place] = bush[0]
    return (grove_from(bag_with(grove.bag(), joints), grove.roots(), table), nails, None)


def behind_prune(stand, act):
    """Return the stand behind an act that prunes a stretch."""
    grove, nails, _ = stand
    _, s, t = act
    table = {place: name for place, name in grove.table()}
    table[s] = grove.joint(t)
    left = grove_from(bag_without(grove.bag(), joints_of(grove, s, t)), grove.roots(), table)
    return (left, in_order(left, nails), None)


# For the first member of an act: how many members the act has, what tells its word, and what does it.
KINDS = {
    "hang": (3, deed_word, behind_deed),
    "stretch": (5, deed_word, behind_deed),
    "nail": (2, nail_word, behind_nail),
    "free": (2, nail_word, behind_nail),
    "goal": (2, goal_word, behind_goal),
    "plant": (3, plant_word, behind_plant),
    "fell": (2, fell_word, behind_fell),
    "graft": (4, graft_word, behind_graft),
    "prune": (3, prune_word, behind_prune),
}


def act_word(stand, act):
    """Return the word that tells why act, which may be anything, is none at a stand; None if it is one."""
    if not isinstance(act, tuple) or len(act) == 0 or not isinstance(act[0], str) or act[0] not in KINDS:
        return "form"
    members, word_of, _ = KINDS[act[0]]
    return word_of(stand, act) if len(act) == members else "form"


def after(stand, act):
    """Return the stand to which an act, which may be anything, leads."""
    word = act_word(stand, act)
    if word is not None:
        raise BadAct(word)
    behind = KINDS[act[0]][2]
    return behind(stand, act)
