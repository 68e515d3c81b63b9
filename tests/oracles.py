"""The document's words once more, written another way, to compare the program with."""


def is_plain_word(value):
    if type(value) is not str or not value:
        return False
    good = "abcdefghijklmnopqrstuvwxyz0123456789"
    return len(value) <= 12 and not value[0].isdigit() and not [letter for letter in value if letter not in good]


def first_root_path(roots):
    if type(roots) not in (list, tuple):
        return (0,)
    wrong = [(0, k) for k, root in enumerate(roots) if not is_plain_word(root)]
    return wrong[0] if wrong else None


class Wrong(Exception):
    """Something is wrong at this path."""

    def __init__(self, path):
        super().__init__(path)
        self.path = path


def first_grove_path(kinds, roots, bushes, each_once):
    """The path of the first wrong part of a grove; kinds: name or word to (stem, branches)."""
    path = first_root_path(roots)
    if path is not None:
        return path
    if type(bushes) not in (list, tuple) or len(bushes) != len(roots):
        return (1,)
    met = []

    def look_at(bush, path, colour):
        if type(bush) is not tuple or bush == ():
            raise Wrong(path)
        name = bush[0]
        if type(name) is not str or name not in kinds:
            raise Wrong(path + (0,))
        if each_once and name in met:
            raise Wrong(path + (0,))
        stem, branches = kinds[name]
        if stem != colour:
            raise Wrong(path + (0,))
        met.append(name)
        if len(bush) - 1 != len(branches):
            raise Wrong(path)
        for j, branch in enumerate(branches):
            look_at(bush[j + 1], path + (j + 1,), branch)

    try:
        for n, bush in enumerate(bushes):
            look_at(bush, (1, n), roots[n])
    except Wrong as wrong:
        return wrong.path
    if each_once and sorted(met) != sorted(kinds):
        return ()
    return None


def kinds_of_bag(bag):
    return {name: (bag.stem(name), bag.branches(name)) for name in bag.names()}


def kinds_of_book(book):
    return {word: (stem, branches) for word, stem, branches in book.shapes()}


def table_of(bushes):
    """The dict of place to name, by recursion through the bushes."""
    found = {}

    def look_at(bush, place):
        found[place] = bush[0]
        for j, part in enumerate(bush[1:]):
            look_at(part, (bush[0], j))

    for n, bush in enumerate(bushes):
        look_at(bush, ("root", n))
    return found


def hanging_of(bushes):
    """The dict of place to the list of the names that hang there, in the order of a walk."""
    found = {}

    def look_at(bush, place):
        names = [bush[0]]
        for j, part in enumerate(bush[1:]):
            names += look_at(part, (bush[0], j))
        found[place] = names
        return names

    for n, bush in enumerate(bushes):
        look_at(bush, ("root", n))
    return found


def totals_of(book, roots, bushes):
    """The totals of a plain grove, by recursion."""
    words = book.words()
    times = {}
    stock = [0] * len(words)
    depths = [0]

    def look_at(bush, owner, number, depth):
        row = (owner, number, bush[0])
        times[row] = times.get(row, 0) + 1
        stock[words.index(bush[0])] += 1
        depths.append(depth)
        for j, part in enumerate(bush[1:]):
            look_at(part, bush[0], j, depth + 1)

    for n, bush in enumerate(bushes):
        look_at(bush, None, n, 1)
    rows = []
    for owner in [None] + words:
        for number in range(max(len(roots), 30)):
            for word in words:
                if (owner, number, word) in times:
                    rows.append((owner, number, word, times[(owner, number, word)]))
    return (tuple(roots), tuple(stock), tuple(rows), max(depths))


def plain_lexemes(text):
    """The pairs (lexeme, place) ahead of the first character that begins none, and the place of this or None."""
    found = []
    k = 0
    while k < len(text):
        if text[k] == " " or text[k] == "\n":
            k += 1
            continue
        if text[k] in "(){},;":
            run = text[k]
        elif "a" <= text[k] <= "z":
            run = ""
            for letter in text[k:]:
                if not ("a" <= letter <= "z" or "0" <= letter <= "9"):
                    break
                run += letter
            if len(run) > 12:
                return found, k
        elif text[k] == "0":
            run = "0"
        elif "1" <= text[k] <= "9":
            run = ""
            for letter in text[k:]:
                if not "0" <= letter <= "9":
                    break
                run += letter
        else:
            return found, k
        found.append((run, k))
        k += len(run)
    return found, None


class Descent:
    """Goes down through the form of a text; Wrong tells the place of the first lexeme that does not fit."""

    def __init__(self, text):
        self.text = text
        self.found, self.bad = plain_lexemes(text)
        self.at = 0

    def fail(self):
        if self.at < len(self.found):
            raise Wrong(self.found[self.at][1])
        raise Wrong(len(self.text) if self.bad is None else self.bad)

    def shown(self):
        return self.found[self.at][0] if self.at < len(self.found) else ""

    def just(self, lexeme):
        if self.shown() != lexeme:
            self.fail()
        self.at += 1

    def name(self):
        if not self.shown()[:1].isalpha():
            self.fail()
        self.at += 1

    def number(self):
        if not self.shown()[:1].isdigit():
            self.fail()
        self.at += 1

    def names(self):
        self.just("(")
        if self.shown() == ")":
            self.at += 1
            return
        self.name()
        while self.shown() == ",":
            self.at += 1
            self.name()
        self.just(")")

    def place(self):
        self.name()
        self.number()

    def bush(self, part=None):
        """A bush; part goes through what may stand within its brackets, if not a bush alone."""
        part = part or self.bush
        self.name()
        if self.shown() == "(":
            self.at += 1
            part()
            while self.shown() == ",":
                self.at += 1
                part()
            self.just(")")

    def rows(self, row):
        self.just("{")
        while self.shown() != "}":
            row()
            self.just(";")
        self.just("}")
        if self.at < len(self.found) or self.bad is not None:
            self.fail()

    def shape(self):
        self.just("shape")
        self.name()
        self.name()
        self.names()

    def joint(self):
        self.just("joint")
        self.name()
        self.name()

    def deed(self):
        many = 4 if self.shown() == "stretch" else 2
        self.just("stretch" if many == 4 else "hang")
        for _ in range(many):
            self.place()

    def whole(self, form):
        self.just(form)
        if form in ("grove", "plain"):
            self.names()
        row = {"book": self.shape, "bag": self.joint, "script": self.deed}.get(form, self.bush)
        self.rows(row)


def first_wrong_place(form, text):
    """The first wrong place of a text, or None if it is right."""
    try:
        Descent(text).whole(form)
    except Wrong as wrong:
        return wrong.path
    return None


class Surgery:
    """Deeds as the document's words tell them, done by cutting bushes: no table of places is used."""

    def __init__(self, bag, roots, bushes):
        self.bag = bag
        self.roots = tuple(roots)
        self.bushes = tuple(bushes)
        self.hung = hanging_of(bushes)
        self.places = [("root", n) for n in range(len(self.roots))]
        self.places += [(name, n) for name in bag.names() for n in range(len(bag.branches(name)))]

    def colour(self, place):
        return self.roots[place[1]] if place[0] == "root" else self.bag.branches(place[0])[place[1]]

    def is_above(self, s, t):
        return t[0] in self.hung[s]

    def is_apart(self, s, t):
        return s != t and not self.is_above(s, t) and not self.is_above(t, s)

    def is_stretch(self, s, t):
        return s == t or self.is_above(s, t)

    def joints(self, s, t):
        return [name for name in self.hung[s] if s != t and name not in self.hung[t]]

    def colours(self, s, t):
        return (self.colour(s), self.colour(t))

    def can(self, deed):
        """Whether a tuple of one of the two forms, with places in it, can be done."""
        if deed[0] == "hang":
            return self.is_apart(deed[1], deed[2]) and self.colour(deed[1]) == self.colour(deed[2])
        s, t, u, v = deed[1:]
        if not (self.is_stretch(s, t) and self.is_stretch(u, v) and self.colours(s, t) == self.colours(u, v)):
            return False
        if [name for name in self.joints(s, t) if name in self.joints(u, v)]:
            return False
        if s == t and u == v:
            return False
        return self.is_apart(s, u) if s == t or u == v else True

    def case(self, deed):
        """The number of the case of S3.3, or 0 for a deed of one coin."""
        if deed[0] == "hang":
            return 0
        s, t, u, v = deed[1:]
        if s == t:
            return 4
        if u == v:
            return 5
        return 2 if t == u else 3 if v == s else 1

    def bush_at(self, place):
        for bush in self.every(self.bushes):
            if bush[0] == self.hung[place][0]:
                return bush

    def every(self, bushes):
        for bush in bushes:
            yield bush
            yield from self.every(bush[1:])

    def done(self, deed):
        """The tuple of the bushes behind a deed."""
        if deed[0] == "hang":
            s, t = deed[1:]
            swap = {s: self.bush_at(t), t: self.bush_at(s)}
            return self.rebuilt(lambda place, go_on: swap[place] if place in swap else go_on(place))
        s, t, u, v = deed[1:]

        def hang(place, go_on):
            if place == s:
                return cut(u, v, t, go_on)
            if place == u:
                return cut(s, t, v, go_on)
            return go_on(place)

        def cut(begin, end, rest, go_on):
            """The stretch from begin to end, and at its end what hung at rest."""
            def inner(place):
                if place == end:
                    # An empty stretch leaves what hung at its place.
                    if rest == s == t or rest == u == v:
                        return go_on(rest)
                    return hang(rest, go_on)
                bush = self.bush_at(place)
                parts = []
                for n in range(len(bush) - 1):
                    below = (bush[0], n)
                    parts.append(inner(below) if self.is_stretch(below, end) else hang(below, go_on))
                return (bush[0],) + tuple(parts)
            return inner(begin)

        return self.rebuilt(hang)

    def rebuilt(self, hang):
        def go_on(place):
            bush = self.bush_at(place)
            return (bush[0],) + tuple(hang((bush[0], n), go_on) for n in range(len(bush) - 1))
        return tuple(hang(("root", n), go_on) for n in range(len(self.roots)))

    def every_deed(self):
        """All deeds, canonical or not, by looking at all tuples of places."""
        pairs = [(s, t) for s in self.places for t in self.places]
        found = [("hang", s, t) for s, t in pairs if self.can(("hang", s, t))]
        whole = [(s, t) for s, t in pairs if self.is_stretch(s, t)]
        for s, t in whole:
            found += [("stretch", s, t, u, v) for u, v in whole if self.can(("stretch", s, t, u, v))]
        return found

    def is_canonical(self, deed):
        other = 2 if deed[0] == "hang" else 3
        return self.places.index(deed[1]) < self.places.index(deed[other])

    def canonical_deeds(self):
        """All canonical deeds in the order of the document, by sorting."""
        def key(deed):
            return (deed[0] != "hang", [self.places.index(place) for place in deed[1:]])
        return sorted([deed for deed in self.every_deed() if self.is_canonical(deed)], key=key)

    def paid(self, deed):
        """The colours in which a deed costs a coin each."""
        return [self.colour(deed[1])] + ([self.colour(deed[2])] if deed[0] == "stretch" else [])


class Land:
    """All groves to which deeds lead from one, and the deeds between them; for small bags."""

    def __init__(self, grove):
        self.bag = grove.bag()
        self.roots = grove.roots()
        self.deeds = {}
        waiting = [tuple(grove.bushes())]
        while waiting:
            bushes = waiting.pop()
            if bushes in self.deeds:
                continue
            surgery = Surgery(self.bag, self.roots, bushes)
            self.deeds[bushes] = [
                (deed, surgery.paid(deed), surgery.done(deed)) for deed in surgery.canonical_deeds()
            ]
            waiting += [told[2] for told in self.deeds[bushes]]

    def costs(self, start, prices=None):
        """What the cheapest way from start costs to each grove; prices: colour to price, 1 if there are none."""
        found = {start: 0}
        piles = {0: [start]}
        while piles:
            cost = min(piles)
            for bushes in piles.pop(cost):
                if found[bushes] < cost:
                    continue
                for _, paid, other in self.deeds[bushes]:
                    behind = cost + sum(prices[colour] if prices else 1 for colour in paid)
                    if other not in found or behind < found[other]:
                        found[other] = behind
                        piles.setdefault(behind, []).append(other)
        return found

    def ways(self, start, end):
        """All cheapest ways, lists of canonical deeds."""
        # Each deed is taken back at the same price, so what leads from the end leads to it.
        known = self.costs(end)

        def go_on(bushes):
            if bushes == end:
                return [[]]
            found = []
            for deed, paid, other in self.deeds[bushes]:
                if known[other] + len(paid) == known[bushes]:
                    found += [[deed] + rest for rest in go_on(other)]
            return found

        return go_on(start)
