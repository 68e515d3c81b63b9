"""Scripts: deeds that can be done one after another."""

from bushcoins.bags import colours_at
from bushcoins.deeds import moved, paid_at, taken_back
from bushcoins.errors import BadDeed
from bushcoins.pieces import is_deed


def steps_until(grove, script):
    """Return the groves through which a list of anything leads, as far as it is of deeds that can be done."""
    found = [grove]
    for deed in script:
        if not is_deed(found[-1], deed):
            return found
        found.append(moved(found[-1], deed))
    return found


def steps(grove, script):
    """Return the list of the grove itself and of the groves behind each deed of a script."""
    found = steps_until(grove, script)
    if len(found) <= len(script):
        raise BadDeed(len(found) - 1)
    return found


def walked(grove, script):
    """Return the grove to which a script leads."""
    return steps(grove, script)[-1]


def turned_back(grove, script):
    """Return the list of the deeds of the script turned back, each canonical."""
    groves = steps(grove, script)
    return [taken_back(groves[k], script[k]) for k in reversed(range(len(script)))]


def first_bad(grove, value):
    """Return the number of the first member of value that can not be done, or None if value is a script."""
    if not isinstance(value, (list, tuple)):
        return 0
    many = len(steps_until(grove, value)) - 1
    return many if many < len(value) else None


def price(bag, roots, script):
    """Return the list of the pairs of a colour that places have and the coins that a script costs in it."""
    colours = colours_at(bag, roots)
    found = {colour: 0 for colour in colours.values()}
    for deed in script:
        for place in paid_at(deed):
            found[colours[place]] += 1
    return list(found.items())
