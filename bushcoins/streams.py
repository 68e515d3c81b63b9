"""Texts of plain groves that are handed in piece by piece and counted."""

from bushcoins.errors import BadGrove, BadText
from bushcoins.forms import Reading
from bushcoins.lexemes import scan

# The number of the owner of a root; it comes ahead of the numbers of the shapes.
NO_SHAPE = -1


class Unfinished:
    """A bush, or the whole grove, that has begun and not yet ended."""

    def __init__(self, path, first, shape_number, awaited, clean):
        self.path = path
        # What is added to the path for the first part.
        self.first = first
        self.shape_number = shape_number
        # The colours of the parts that should come.
        self.awaited = awaited
        # Whether nothing was wrong ahead of its parts.
        self.clean = clean
        self.many = 0


class PlainCount:
    """Counts a plain grove lexeme by lexeme, and keeps only the bushes that are not yet ended."""

    def __init__(self, book):
        self._shapes = book.shapes()
        self._numbers = {shape[0]: k for k, shape in enumerate(self._shapes)}
        self._head = []
        self._unfinished = []
        self._wrong = None
        self._stock = [0 for _ in self._shapes]
        self._times = {}
        self._depth = 0

    def take(self, lexeme):
        """Go on behind a lexeme that may come next."""
        if not self._unfinished:
            self._take_head(lexeme)
        elif lexeme in (",", ")", ";", "}"):
            self._finish()
        elif lexeme != "(":
            self._begin(lexeme)

    def _take_head(self, lexeme):
        if lexeme == "{":
            self._unfinished.append(Unfinished((1,), 0, NO_SHAPE, self.roots(), True))
        elif lexeme not in ("(", ",", ")"):
            self._head.append(lexeme)

    def roots(self):
        """Return the tuple of the roots."""
        return tuple(self._head[1:])

    def _begin(self, word):
        around = self._unfinished[-1]
        path = around.path + (around.first + around.many,)
        colour = around.awaited[around.many] if around.many < len(around.awaited) else None
        k = self._numbers.get(word, NO_SHAPE)
        branches = ()
        if k != NO_SHAPE and self._shapes[k][1] == colour:
            branches = self._shapes[k][2]
            self._stock[k] += 1
            row = (around.shape_number, around.many, k)
            self._times[row] = self._times.get(row, 0) + 1
        elif self._wrong is None:
            self._wrong = path + (0,)
        around.many += 1
        # The grove itself is no joint, so the depth is counted ahead of the new bush.
        self._depth = max(self._depth, len(self._unfinished))
        self._unfinished.append(Unfinished(path, 1, k, branches, self._wrong is None))

    def _finish(self):
        ended = self._unfinished.pop()
        # A wrong number of parts comes ahead of all that is wrong in the parts.
        if ended.clean and ended.many != len(ended.awaited):
            self._wrong = ended.path

    def totals(self):
        """Return the totals of the whole grove; raise BadGrove for its first wrong part."""
        if self._wrong is not None:
            raise BadGrove(self._wrong)
        words = [shape[0] for shape in self._shapes]
        rows = []
        for shape_number, number, k in sorted(list(self._times)):
            owner = None if shape_number == NO_SHAPE else words[shape_number]
            rows.append((owner, number, words[k], self._times[(shape_number, number, k)]))
        return (self.roots(), tuple(self._stock), tuple(rows), self._depth)


class PlainStream:
    """A text of a plain grove of a Book that is handed in piece by piece."""

    def __init__(self, book):
        self._reading = Reading("PLAIN")
        self._count = PlainCount(book)
        # A word at the end of the text so far may go on; it is kept here, and the place at which it begins, too.
        self._rest = ""
        self._place = 0
        self._wrong = None

    def feed(self, piece):
        """Take the next piece of the text; raise BadText as soon as its first wrong place is sure."""
        self._refuse_again()
        text = self._rest + piece
        found, wrong = scan(text)
        rest = found.pop()[1] if ends_with_word(text, found) else ""
        for sort, lexeme, place in found:
            if not self._reading.takes(sort, lexeme):
                self._refuse(place)
            self._count.take(lexeme)
        if wrong is not None:
            self._refuse(wrong)
        if rest != "" and not self._reading.allows_beginning(rest):
            self._refuse(len(text) - len(rest))
        self._place += len(text) - len(rest)
        self._rest = rest

    def _refuse_again(self):
        if self._wrong is not None:
            raise BadText(self._wrong)

    def _refuse(self, place):
        """Raise BadText for a place of the unread text, now and ever after."""
        self._wrong = self._place + place
        raise BadText(self._wrong)

    def totals(self):
        """Return the totals of the text so far, as if it ended here."""
        self._refuse_again()
        if self._rest != "" and not self._reading.allows("word", self._rest):
            raise BadText(self._place)
        # Where a word may come next, the text is not complete, and no text ends with a word.
        if not self._reading.is_complete():
            raise BadText(self._place + len(self._rest))
        return self._count.totals()


def ends_with_word(text, found):
    """Return whether the last lexeme that was found is a word that reaches to the end of the text."""
    return len(found) > 0 and found[-1][0] == "word" and found[-1][2] + len(found[-1][1]) == len(text)
