"""Patterns, where they stand in plain groves, and how often they do."""

from math import comb

from bushcoins.counting import NEW, count_of, count_plain, entries_of_stock, fraction
from bushcoins.errors import BadPattern, Overlaps
from bushcoins.heaps import filled, walk_open
from bushcoins.numbering import bushes_of, rows_from
from bushcoins.plain import stock_of
from bushcoins.stocks import bushes_by_path


def wrong_part(book, pattern):
    """Return the path of the first wrong part of a pattern, which may be anything, or None."""
    kinds = {word: (stem, branches) for word, stem, branches in book.shapes()}
    waiting = [(pattern, (), None)]
    while waiting:
        part, path, colour = waiting.pop()
        if not isinstance(part, tuple) or len(part) == 0:
            return path
        if not isinstance(part[0], str) or part[0] not in kinds:
            return path
        stem, branches = kinds[part[0]]
        # The whole pattern stands at no branch, so its stem may have any colour.
        if len(part) != len(branches) + 1 or colour not in (None, stem):
            return path
        for j in reversed(range(len(branches))):
            if part[j + 1] is not None:
                waiting.append((part[j + 1], path + (j,), branches[j]))
    return None


def check_pattern(book, pattern):
    """Raise BadPattern for the first wrong part of a pattern."""
    path = wrong_part(book, pattern)
    if path is not None:
        raise BadPattern(path)


def parts_of(pattern):
    """Return the list of the parts that begin with the joints of a pattern, itself first, in the order of a walk."""
    return [part for part in walk_open(pattern) if part is not None]


def pattern_stock(book, pattern):
    """Return the stock of a pattern."""
    check_pattern(book, pattern)
    return stock_of(book, [(part[0],) for part in parts_of(pattern)])


def open_colours(book, pattern):
    """Return the tuple of the colours of the open places, in order."""
    check_pattern(book, pattern)
    found = []
    # What is still to come, the next one last: parts and the colours of their branches.
    waiting = [(pattern, None)]
    while waiting:
        part, colour = waiting.pop()
        if part is None:
            found.append(colour)
        else:
            waiting.extend(list(zip(part[1:], book.branches(part[0])))[::-1])
    return tuple(found)


def agrees(one, other):
    """Return whether two parts have the same words wherever both have a joint."""
    if one is None or other is None:
        return True
    if one[0] != other[0]:
        return False
    return all([agrees(part, below) for part, below in zip(one[1:], other[1:])])


def overlaps(book, pattern):
    """Return whether a pattern overlaps itself."""
    check_pattern(book, pattern)
    return any([agrees(part, pattern) for part in parts_of(pattern)[1:]])


def stands(pattern, bush):
    """Return whether a part of a pattern, or None, stands at the first joint of a bush."""
    if pattern is None:
        return True
    if pattern[0] != bush[0]:
        return False
    return all([stands(part, below) for part, below in zip(pattern[1:], bush[1:])])


def standing(book, grove, pattern):
    """Return the list of the paths of the joints at which a pattern stands, in the order of a walk."""
    check_pattern(book, pattern)
    return [path for path, bush in bushes_by_path(grove) if stands(pattern, bush)]


def marked_entries(book, stock, pattern, marks):
    """Return the entries of a stock with so many patterns as joints of a new shape; None if it has too few joints."""
    needed = pattern_stock(book, pattern)
    left = [many - marks * each for many, each in zip(stock, needed)]
    if any([many < 0 for many in left]):
        return None
    entries = entries_of_stock(book, left)
    if marks > 0:
        entries.append((NEW, book.stem(pattern[0]), open_colours(book, pattern), marks))
    return entries


def marked(book, roots, stock, pattern, marks):
    """Return the number of the marked groves with so many marks."""
    entries = marked_entries(book, stock, pattern, marks)
    return 0 if entries is None else count_of(entries, roots)


def unmarked(bush, pattern):
    """Return a bush in which each joint of the new shape is a pattern again."""
    parts = [unmarked(part, pattern) for part in bush[1:]]
    return filled(pattern, parts) if bush[0] == NEW else (bush[0], *parts)


def shown_in_some(book, roots, stock, pattern):
    """Return a plain grove of a stock that shows a pattern, or None."""
    entries = marked_entries(book, stock, pattern, 1)
    if entries is None:
        return None
    rows = rows_from(entries, tuple(roots), 0, 1)
    if not rows:
        return None
    return tuple([unmarked(bush, pattern) for bush in bushes_of(entries, rows[0])])


def average(book, roots, stock, pattern):
    """Return how often a pattern stands in a plain grove on the average, or None if there is no plain grove."""
    number = marked(book, roots, stock, pattern, 1)
    whole = count_plain(book, stock, roots)
    return fraction(number, whole) if whole > 0 else None


def most_marks(book, stock, pattern):
    """Return how many patterns a stock has joints for."""
    needed = pattern_stock(book, pattern)
    return min([many // each for many, each in zip(stock, needed) if each > 0])


def shown(book, roots, stock, pattern):
    """Return the list whose member j is the number of the plain groves that show a pattern exactly j times."""
    if overlaps(book, pattern):
        raise Overlaps()
    most = most_marks(book, stock, pattern)
    numbers = [marked(book, roots, stock, pattern, i) for i in range(most + 1)]
    found = []
    for j in range(most + 1):
        # Marked groves with one mark more, with two marks more and so on count in turn against and for.
        added = [comb(i, j) * numbers[i] for i in range(j, most + 1, 2)]
        taken_away = [comb(i, j) * numbers[i] for i in range(j + 1, most + 1, 2)]
        found.append(sum(added) - sum(taken_away))
    while found and found[-1] == 0:
        found.pop()
    return found
