"""The document's words once more, written another way, to compare the program with."""


def is_plain_word(value):
    if type(value) is not str or not value:
        return False
    good = "abcdefghijklmnopqrstuvwxyz0123456789"
    return len(value) <= 12 and not value[0].isdigit() and not [letter for letter in value if letter not in good]


def first_root_path(roots):
    if type(roots) not in (list, tuple):
        return (0,)
    wrong = [(0, k) for k, root in enumerate(roots) if not is_plain_word(root)]
    return wrong[0] if wrong else None


class Wrong(Exception):
    """Something is wrong at this path."""

    def __init__(self, path):
        super().__init__(path)
        self.path = path


def first_grove_path(kinds, roots, bushes, each_once):
    """The path of the first wrong part of a grove; kinds: name or word to (stem, branches)."""
    path = first_root_path(roots)
    if path is not None:
        return path
    if type(bushes) not in (list, tuple) or len(bushes) != len(roots):
        return (1,)
    met = []

    def look_at(bush, path, colour):
        if type(bush) is not tuple or bush == ():
            raise Wrong(path)
        name = bush[0]
        if type(name) is not str or name not in kinds:
            raise Wrong(path + (0,))
        if each_once and name in met:
            raise Wrong(path + (0,))
        stem, branches = kinds[name]
        if stem != colour:
            raise Wrong(path + (0,))
        met.append(name)
        if len(bush) - 1 != len(branches):
            raise Wrong(path)
        for j, branch in enumerate(branches):
            look_at(bush[j + 1], path + (j + 1,), branch)

    try:
        for n, bush in enumerate(bushes):
            look_at(bush, (1, n), roots[n])
    except Wrong as wrong:
        return wrong.path
    if each_once and sorted(met) != sorted(kinds):
        return ()
    return None


def kinds_of_bag(bag):
    return {name: (bag.stem(name), bag.branches(name)) for name in bag.names()}


def kinds_of_book(book):
    return {word: (stem, branches) for word, stem, branches in book.shapes()}


def table_of(bushes):
    """The dict of place to name, by recursion through the bushes."""
    found = {}

    def look_at(bush, place):
        found[place] = bush[0]
        for j, part in enumerate(bush[1:]):
            look_at(part, (bush[0], j))

    for n, bush in enumerate(bushes):
        look_at(bush, ("root", n))
    return found


def hanging_of(bushes):
    """The dict of place to the list of the names that hang there, in the order of a walk."""
    found = {}

    def look_at(bush, place):
        names = [bush[0]]
        for j, part in enumerate(bush[1:]):
            names += look_at(part, (bush[0], j))
        found[place] = names
        return names

    for n, bush in enumerate(bushes):
        look_at(bush, ("root", n))
    return found


def totals_of(book, roots, bushes):
    """The totals of a plain grove, by recursion."""
    words = book.words()
    times = {}
    stock = [0] * len(words)
    depths = [0]

    def look_at(bush, owner, number, depth):
        row = (owner, number, bush[0])
        times[row] = times.get(row, 0) + 1
        stock[words.index(bush[0])] += 1
        depths.append(depth)
        for j, part in enumerate(bush[1:]):
            look_at(part, bush[0], j, depth + 1)

    for n, bush in enumerate(bushes):
        look_at(bush, None, n, 1)
    rows = []
    for owner in [None] + words:
        for number in range(max(len(roots), 30)):
            for word in words:
                if (owner, number, word) in times:
                    rows.append((owner, number, word, times[(owner, number, word)]))
    return (tuple(roots), tuple(stock), tuple(rows), max(depths))


def plain_lexemes(text):
    """The pairs (lexeme, place) ahead of the first character that begins none, and the place of this or None."""
    found = []
    k = 0
    while k < len(text):
        if text[k] == " " or text[k] == "\n":
            k += 1
            continue
        if text[k] in "(){},;":
            run = text[k]
        elif "a" <= text[k] <= "z":
            run = ""
            for letter in text[k:]:
                if not ("a" <= letter <= "z" or "0" <= letter <= "9"):
                    break
                run += letter
            if len(run) > 12:
                return found, k
        elif text[k] == "0":
            run = "0"
        elif "1" <= text[k] <= "9":
            run = ""
            for letter in text[k:]:
                if not "0" <= letter <= "9":
                    break
                run += letter
        else:
            return found, k
        found.append((run, k))
        k += len(run)
    return found, None


class Descent:
    """Goes down through the form of a text; Wrong tells the place of the first lexeme that does not fit."""

    def __init__(self, text):
        self.text = text
        self.found, self.bad = plain_lexemes(text)
        self.at = 0

    def fail(self):
        if self.at < len(self.found):
            raise Wrong(self.found[self.at][1])
        raise Wrong(len(self.text) if self.bad is None else self.bad)

    def shown(self):
        return self.found[self.at][0] if self.at < len(self.found) else ""

    def just(self, lexeme):
        if self.shown() != lexeme:
            self.fail()
        self.at += 1

    def name(self):
        if not self.shown()[:1].isalpha():
            self.fail()
        self.at += 1

    def number(self):
        if not self.shown()[:1].isdigit():
            self.fail()
        self.at += 1

    def names(self):
        self.just("(")
        if self.shown() == ")":
            self.at += 1
            return
        self.name()
        while self.shown() == ",":
            self.at += 1
            self.name()
        self.just(")")

    def place(self):
        self.name()
        self.number()

    def bush(self):
        self.name()
        if self.shown() == "(":
            self.at += 1
            self.bush()
            while self.shown() == ",":
                self.at += 1
                self.bush()
            self.just(")")

    def rows(self, row):
        self.just("{")
        while self.shown() != "}":
            row()
            self.just(";")
        self.just("}")
        if self.at < len(self.found) or self.bad is not None:
            self.fail()

    def shape(self):
        self.just("shape")
        self.name()
        self.name()
        self.names()

    def joint(self):
        self.just("joint")
        self.name()
        self.name()

    def deed(self):
        many = 4 if self.shown() == "stretch" else 2
        self.just("stretch" if many == 4 else "hang")
        for _ in range(many):
            self.place()

    def whole(self, form):
        self.just(form)
        if form in ("grove", "plain"):
            self.names()
        row = {"book": self.shape, "bag": self.joint, "script": self.deed}.get(form, self.bush)
        self.rows(row)


def first_wrong_place(form, text):
    """The first wrong place of a text, or None if it is right."""
    try:
        Descent(text).whole(form)
    except Wrong as wrong:
        return wrong.path
    return None
