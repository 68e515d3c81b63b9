"""The forms of texts and lines, and a look at which lexeme may come next in a text of a form."""

NAME = "NAME"
NUMBER = "NUMBER"
NOTHING = ()

# Each form has rules, one for each way to write it. A rule is empty, or begins with a lexeme, so that the next lexeme
# of a text always tells which rule is meant.
RULES = {
    "BOOK": (("book", "{", "SHAPES"),),
    "SHAPES": (("shape", "NAME", "NAME", "LIST", ";", "SHAPES"), ("}",)),
    "BAG": (("bag", "{", "JOINTS"),),
    "JOINTS": (("joint", "NAME", "NAME", ";", "JOINTS"), ("}",)),
    "GROVE": (("grove", "LIST", "{", "TOPS"),),
    "PLAIN": (("plain", "LIST", "{", "TOPS"),),
    "LIST": (("(", "FIRST NAME"),),
    "FIRST NAME": (("NAME", "FURTHER NAMES"), (")",)),
    "FURTHER NAMES": ((",", "NAME", "FURTHER NAMES"), (")",)),
    "TOPS": (("NAME", "PARTS", ";", "TOPS"), ("}",)),
    "PARTS": (("(", "NAME", "PARTS", "FURTHER PARTS"), ()),
    "FURTHER PARTS": ((",", "NAME", "PARTS", "FURTHER PARTS"), (")",)),
    "SCRIPT": (("script", "{", "DEEDS"),),
    "DEEDS": (
        ("hang", "PLACE", "PLACE", ";", "DEEDS"),
        ("stretch", "PLACE", "PLACE", "PLACE", "PLACE", ";", "DEEDS"),
        ("}",),
    ),
    "PLACE": (("NAME", "NUMBER"),),
    "LINE": (
        ("hang", "PLACE", "PLACE"),
        ("stretch", "PLACE", "PLACE", "PLACE", "PLACE"),
        ("nail", "PLACE"),
        ("free", "PLACE"),
        ("goal", "GOAL BUSHES"),
        ("plant", "JOINT LIST", "NAME", "PARTS"),
        ("fell", "NUMBER"),
        ("graft", "PLACE", "JOINT LIST", "NAME", "OPEN PARTS"),
        ("prune", "PLACE", "PLACE"),
        ("undo",),
        ("redo",),
        ("keep", "NAME"),
        ("show",),
        ("left",),
        ("paid",),
        ("way",),
        ("at", "PLACE"),
        ("where", "NAME"),
        ("to", "NAME"),
        ("nails",),
    ),
    "GOAL BUSHES": (("{", "TOPS"), ()),
    "JOINT LIST": (("(", "FIRST JOINT"),),
    "FIRST JOINT": (("NAME", "NAME", "FURTHER JOINTS"), (")",)),
    "FURTHER JOINTS": ((",", "NAME", "NAME", "FURTHER JOINTS"), (")",)),
    "OPEN PARTS": (("(", "OPEN PART", "FURTHER OPEN PARTS"), ()),
    "OPEN PART": (("NAME", "OPEN PARTS"), (";",)),
    "FURTHER OPEN PARTS": ((",", "OPEN PART", "FURTHER OPEN PARTS"), (")",)),
}


class Reading:
    """A text of a form that is gone through lexeme by lexeme."""

    def __init__(self, form):
        # What is still to come, the next one last.
        self._awaited = [form]

    def _open_rules(self):
        """Return the pairs (k, rule) of all rules that the next lexeme may begin, k the number of what it is for."""
        found = []
        for k in reversed(range(len(self._awaited))):
            rules = RULES.get(self._awaited[k], ((self._awaited[k],),))
            for rule in rules:
                if rule != NOTHING:
                    found.append((k, rule))
            if NOTHING not in rules:
                return found
        return found

    def allows(self, sort, lexeme):
        """Return whether a lexeme may come next."""
        return any([is_told(rule[0], sort, lexeme) for _, rule in self._open_rules()])

    def allows_beginning(self, letters):
        """Return whether a word that begins with these letters may come next."""
        return any([rule[0] == NAME or rule[0].startswith(letters) for _, rule in self._open_rules()])

    def takes(self, sort, lexeme):
        """Go on behind a lexeme if it may come next; return whether it may."""
        rules = [(k, rule) for k, rule in self._open_rules() if is_told(rule[0], sort, lexeme)]
        if not rules:
            return False
        k, rule = rules[0]
        self._awaited = self._awaited[:k] + list(reversed(rule[1:]))
        return True

    def is_complete(self):
        """Return whether the text may end here."""
        return all([NOTHING in RULES.get(form, ()) for form in self._awaited])


def is_told(awaited, sort, lexeme):
    """Return whether a lexeme is what is awaited: any word, any number, or just this lexeme."""
    if awaited == NAME:
        return sort == "word"
    if awaited == NUMBER:
        return sort == "number"
    return awaited == lexeme
