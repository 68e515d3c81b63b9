"""How many groves, and plain groves, there are; chances and means in them."""

from math import factorial, gcd

from bushcoins.matrices import determinant, entries_of_bag, matrix_of, stem_counts

# The label of joints of a new shape; it is the word of no shape.
NEW = ""


def entries_of_stock(book, stock):
    """Return the list of the entries of a stock, one for each shape of which it has a joint, in order."""
    return [(*shape, many) for shape, many in zip(book.shapes(), stock) if many > 0]


def is_balanced(entries, roots):
    """Return whether each colour has as many places as joints."""
    left = stem_counts(entries)
    for root in roots:
        left[root] = left.get(root, 0) - 1
    for entry in entries:
        for colour in entry[2]:
            left[colour] = left.get(colour, 0) - entry[3]
    return all([many == 0 for many in left.values()])


def count_of(entries, roots):
    """Return the number of the groves in which joints of one entry are not told apart."""
    if not is_balanced(entries, roots):
        return 0
    _, rows = matrix_of(entries)
    found = determinant(rows)
    for many in stem_counts(entries).values():
        found = found * factorial(many - 1)
    for entry in entries:
        found = found // factorial(entry[3])
    return found


def fitting(entries, roots):
    """Return the list of the numbers of the entries whose joints have the colour of the first root; [] without one."""
    return [k for k, entry in enumerate(entries) if entry[1] in roots[:1]]


def taken(entries, roots, k):
    """Return the entries and the roots that are left if a joint of entry k is taken out at the first root."""
    label, stem, branches, many = entries[k]
    rest = [(label, stem, branches, many - 1)] if many > 1 else []
    return entries[:k] + rest + entries[k + 1:], branches + roots[1:]


def firsts(entries, roots):
    """Return the list of the pairs (k, number) for each entry that fits: so many groves have its joint first."""
    known = {}
    found = []
    for k in fitting(entries, roots):
        # Entries that are alike but for their labels count alike.
        alike = entries[k][2:]
        if alike not in known:
            left, places = taken(entries, roots, k)
            known[alike] = count_of(left, places)
        found.append((k, known[alike]))
    return found


def labelled_firsts(entries, roots):
    """Return the list of the pairs (label, number) for each entry that fits."""
    return [(entries[k][0], number) for k, number in firsts(entries, roots)]


def count_behind(entries, roots, labels):
    """Return the number of the groves whose row begins with these labels."""
    for label in labels:
        numbers = [k for k in fitting(entries, roots) if entries[k][0] == label]
        if not numbers:
            return 0
        entries, roots = taken(entries, roots, numbers[0])
    return count_of(entries, roots)


def count_named(bag, roots):
    """Return the number of the groves of a bag and roots."""
    return count_of(entries_of_bag(bag), roots)


def count_plain(book, stock, roots):
    """Return the number of the plain groves with a stock and roots."""
    return count_of(entries_of_stock(book, stock), roots)


def first_joints(bag, roots):
    """Return the list of the pairs of a joint that fits the first root and of how many groves have it there."""
    return labelled_firsts(entries_of_bag(bag), tuple(roots))


def first_shapes(book, stock, roots):
    """Return the list of the pairs of a shape that fits the first root and of how many plain groves have it there."""
    return labelled_firsts(entries_of_stock(book, stock), tuple(roots))


def count_beginning(bag, roots, names):
    """Return the number of the groves whose row begins with these names."""
    return count_behind(entries_of_bag(bag), tuple(roots), names)


def plain_beginning(book, stock, roots, words):
    """Return the number of the plain groves whose row begins with these words."""
    return count_behind(entries_of_stock(book, stock), tuple(roots), words)


def fraction(number, whole):
    """Return the fraction in lowest terms, a pair; whole is at least 1."""
    divisor = gcd(number, whole)
    return (number // divisor, whole // divisor)


def chance_at(book, stock, roots, number, word):
    """Return the chance of a word, which may be anything, at a root; None if there is no plain grove."""
    # What is no word of a shape is refused here, also where there is no plain grove.
    book.shape(word)
    whole = count_plain(book, stock, roots)
    if whole == 0:
        return None
    # The order of the roots does not matter, and the first one is the one that is looked at.
    turned = [roots[number], *roots[:number], *roots[number + 1:]]
    return fraction(plain_beginning(book, stock, turned, [word]), whole)


def with_pair(book, stock, word, branch, other):
    """Return the entries of a stock with two joints put together to one of a new shape; None if it has not the two."""
    left = {each: many for each, many in zip(book.words(), stock)}
    left[word] -= 1
    left[other] -= 1
    if left[word] < 0 or left[other] < 0:
        return None
    branches = book.branches(word)
    joined = branches[:branch] + book.branches(other) + branches[branch + 1:]
    return entries_of_stock(book, list(left.values())) + [(NEW, book.stem(word), joined, 1)]


def mean_in(book, stock, roots, word, branch, other):
    """Return the mean of a word, one of its branches, and another word; None if there is no plain grove."""
    meets = book.branches(word)[branch] == book.stem(other)
    whole = count_plain(book, stock, roots)
    if whole == 0:
        return None
    entries = with_pair(book, stock, word, branch, other) if meets else None
    if entries is None:
        return (0, 1)
    return fraction(count_of(entries, roots), whole)
