"""Determinants, and the matrix of a bag.

Joints that count alike are told by entries, tuples (label, stem, branches, many): so many joints, at least one, have
this stem and these branches. A label is the name of a joint or the word of a shape; entries have different labels.
"""


def entries_of_bag(bag):
    """Return the list of the entries of a bag, one for each joint, in order."""
    return [(name, bag.stem(name), bag.branches(name), 1) for name in bag.names()]


def stem_counts(entries):
    """Return the dict from each colour of a stem to the number of the joints that have it."""
    found = {}
    for entry in entries:
        found[entry[1]] = found.get(entry[1], 0) + entry[3]
    return found


def matrix_of(entries):
    """Return the pair of the list of the colours of the matrix and the list of its rows."""
    stems = stem_counts(entries)
    colours = sorted(stems)
    rows = {}
    for colour in colours:
        rows[colour] = {other: 0 for other in colours}
        rows[colour][colour] = stems[colour]
    for _, stem, branches, many in entries:
        for colour in branches:
            if colour in stems:
                rows[stem][colour] -= many
    return colours, [list(rows[colour].values()) for colour in colours]


def bag_matrix(bag):
    """Return the pair of the list of the colours of a bag's matrix and the list of its rows."""
    return matrix_of(entries_of_bag(bag))


def reduced(row, pivot, before):
    """Return a row without its first member, which a multiple of the pivot row has taken away."""
    return [(pivot[0] * row[j] - row[0] * pivot[j]) // before for j in range(1, len(row))]


def determinant(rows):
    """Return the determinant of a list of n lists of n integers."""
    left = [list(row) for row in rows]
    sign = 1
    # What was the first member of the pivot row divides all that the next round makes, so integers are enough.
    found = 1
    while left:
        numbers = [k for k in range(len(left)) if left[k][0] != 0]
        if not numbers:
            return 0
        # The pivot row comes to the top past all rows ahead of it.
        if numbers[0] & 1:
            sign = -sign
        pivot = left.pop(numbers[0])
        left = [reduced(row, pivot, found) for row in left]
        found = pivot[0]
    return sign * found
