"""What is sure, open or never in the groves that have certain facts."""

from bushcoins.bags import colour_of
from bushcoins.building import built, check_built, first_bar, judge_bar
from bushcoins.counting import count_named
from bushcoins.groves import Grove, wrong_grove
from bushcoins.melting import first_clash, first_missing, melted, melted_grove, unmelted_grove
from bushcoins.numbering import grove_at, number_of
from bushcoins.words import is_number

GROVE = "grove"
CLASH = "clash"
BAR = "bar"
SURE = "sure"
OPEN = "open"
NEVER = "never"


def has_facts(grove, facts):
    """Return whether a grove has all facts."""
    return first_missing(grove, facts) is None


def paper_of(bag, roots, facts):
    """Return a paper that shows a grove with all facts, or that there is none."""
    clash = first_clash(bag, roots, facts)
    if clash is not None:
        return (CLASH, *clash)
    rest, tops = melted(bag, roots, facts)
    bar = first_bar(rest, tops)
    if bar is not None:
        return (BAR, *bar)
    return (GROVE, tuple(unmelted_grove(bag, roots, facts, built(rest, tops)).bushes()))


def judge_grove(bag, roots, facts, bushes):
    """Return whether bushes, which may be anything, is the tuple of the bushes of a grove with all facts."""
    if not isinstance(bushes, tuple) or wrong_grove(bag, roots, bushes) is not None:
        return False
    return has_facts(Grove(bag, roots, bushes), facts)


def judge_refusal(bag, roots, facts, paper):
    """Return whether paper, which may be anything, is a paper that shows that there is no grove with all facts."""
    if not isinstance(paper, tuple) or len(paper) != 3:
        return False
    clash = first_clash(bag, roots, facts)
    if clash is not None:
        return is_number(paper[1]) and paper == (CLASH, *clash)
    rest, tops = melted(bag, roots, facts)
    return paper[0] == BAR and judge_bar(rest, tops, paper[1:])


def judge_paper(bag, roots, facts, paper):
    """Return whether paper, which may be anything, is a paper of a list of facts."""
    if isinstance(paper, tuple) and len(paper) == 2 and paper[0] == GROVE:
        return judge_grove(bag, roots, facts, paper[1])
    return judge_refusal(bag, roots, facts, paper)


def count_with(bag, roots, facts):
    """Return how many groves have all facts."""
    if first_clash(bag, roots, facts) is not None:
        return 0
    rest, tops = melted(bag, roots, facts)
    return count_named(rest, tops)


def share(bag, roots, facts, more):
    """Return the pair of how many groves have the facts and more of them, and how many have the facts."""
    return (count_with(bag, roots, [*facts, *more]), count_with(bag, roots, facts))


def check_facts(bag, roots, facts):
    """Raise Clash if facts clash, and then Unbuilt if no grove has them all."""
    rest, tops = melted(bag, roots, facts)
    check_built(rest, tops)


def verdict(bag, roots, facts, fact):
    """Return whether a further fact is "sure", "open" or "never"."""
    check_facts(bag, roots, facts)
    number, whole = share(bag, roots, facts, [fact])
    if number == 0:
        return NEVER
    return SURE if number == whole else OPEN


def names_of_colour(bag, roots, place):
    """Return the list of the names of the joints whose stem has the colour of a place."""
    colour = colour_of(bag, roots, place)
    return [name for name in bag.names() if bag.stem(name) == colour]


def names_at(bag, roots, facts, place):
    """Return the list of the names of all joints that stand at a place in some grove with all facts."""
    check_facts(bag, roots, facts)
    names = names_of_colour(bag, roots, place)
    return [name for name in names if count_with(bag, roots, [*facts, (place, name)]) > 0]


def sure_facts(bag, roots, facts):
    """Return the list of all facts that are sure, in the order of places."""
    rest, tops = melted(bag, roots, facts)
    # Only what one grove has can be sure; built refuses facts that none has.
    grove = unmelted_grove(bag, roots, facts, built(rest, tops))
    return [fact for fact in grove.table() if verdict(bag, roots, facts, fact) == SURE]


def place_paper(bag, roots, facts, place):
    """Return what shows that the fact with a place is sure, or that two such facts are open."""
    names = names_at(bag, roots, facts, place)
    papers = [(name, paper_of(bag, roots, [*facts, (place, name)])) for name in names_of_colour(bag, roots, place)]
    if len(names) == 1:
        return (SURE, names[0], tuple([row for row in papers if row[0] != names[0]]))
    groves = [paper[1] for name, paper in papers if name in names]
    return (OPEN, groves[0], groves[1])


def shows_sure(bag, roots, facts, place, name, rows):
    """Return whether rows, which may be anything, show that the fact with a place and a name is sure."""
    names = names_of_colour(bag, roots, place)
    if name not in names or not isinstance(rows, tuple):
        return False
    others = [other for other in names if other != name]
    if len(rows) != len(others):
        return False
    for other, row in zip(others, rows):
        if not isinstance(row, tuple) or len(row) != 2 or row[0] != other:
            return False
        if not judge_refusal(bag, roots, [*facts, (place, other)], row[1]):
            return False
    return True


def shows_open(bag, roots, facts, place, bushes, others):
    """Return whether bushes and others, which may be anything, are groves with the facts that differ at a place."""
    if not judge_grove(bag, roots, facts, bushes) or not judge_grove(bag, roots, facts, others):
        return False
    return Grove(bag, roots, bushes).joint(place) != Grove(bag, roots, others).joint(place)


def judge_place(bag, roots, facts, place, paper):
    """Return whether paper, which may be anything, is right about a place."""
    check_facts(bag, roots, facts)
    if not isinstance(paper, tuple) or len(paper) != 3:
        return False
    if paper[0] == SURE:
        return shows_sure(bag, roots, facts, place, paper[1], paper[2])
    return paper[0] == OPEN and shows_open(bag, roots, facts, place, paper[1], paper[2])


def settles(bag, roots, facts):
    """Return whether just one grove has all facts."""
    return count_with(bag, roots, facts) == 1


def steady_list(grove):
    """Return the steady list of a grove."""
    bag = grove.bag()
    roots = grove.roots()
    found = []
    many = count_with(bag, roots, found)
    for fact in grove.table():
        left = count_with(bag, roots, found + [fact])
        # A fact is sure if it leaves out no grove.
        if left < many:
            found.append(fact)
            many = left
    return found


def thinned(bag, roots, facts):
    """Return the list of facts without those that are sure by the others."""
    check_facts(bag, roots, facts)
    many = count_with(bag, roots, facts)
    found = list(facts)
    for k in reversed(range(len(facts))):
        rest = found[:k] + found[k + 1:]
        if count_with(bag, roots, rest) == many:
            found = rest
    return found


def grove_with(bag, roots, facts, number):
    """Return the grove with this number among those that have all facts."""
    check_facts(bag, roots, facts)
    rest, tops = melted(bag, roots, facts)
    return unmelted_grove(bag, roots, facts, grove_at(rest, tops, number))


def number_with(grove, facts):
    """Return the number of a grove among those that have all facts."""
    return number_of(melted_grove(grove, facts))
