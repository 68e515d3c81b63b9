"""The errors of the package. Each keeps its arguments as attributes."""


class BushError(ValueError):
    """The base of the errors about values that are not as they should be."""


class UnlikeGroves(BushError):
    """Groves that should be of one bag and have the same roots do not."""


class TooGreat(BushError):
    """A number, or what would have to be gone through, is too great."""


class Overlaps(BushError):
    """A pattern overlaps itself."""


class NothingDone(BushError):
    """There is no act to undo or to redo."""


class UnlikeStocks(BushError):
    """Two plain groves have different numbers of the shape with this word."""

    def __init__(self, word):
        self.word = word


class BadBook(BushError):
    """The first wrong part of a book stands at this path."""

    def __init__(self, path):
        self.path = tuple(path)


class BadBag(BushError):
    """The first wrong part of a bag stands at this path."""

    def __init__(self, path):
        self.path = tuple(path)


class BadGrove(BushError):
    """The first wrong part of a grove, or of a plain one, stands at this path."""

    def __init__(self, path):
        self.path = tuple(path)


class BadAssembly(BushError):
    """The first wrong part of an assembly stands at this path."""

    def __init__(self, path):
        self.path = tuple(path)


class BadPattern(BushError):
    """The first wrong part of a pattern stands at this path."""

    def __init__(self, path):
        self.path = tuple(path)


class BadDeed(BushError):
    """The deed with this number can not be done."""

    def __init__(self, number):
        self.number = number


class BadAct(BushError):
    """An act is refused; the word tells why."""

    def __init__(self, word):
        self.word = word


class BadText(BushError):
    """The first wrong place of a text."""

    def __init__(self, place):
        self.place = place


class Unbuilt(BushError):
    """Nothing can be built; word and value are what bars it."""

    def __init__(self, word, value):
        self.word = word
        self.value = value


class Clash(BushError):
    """The fact with this number clashes."""

    def __init__(self, number):
        self.number = number


class NameMissing(LookupError):
    """The base of the errors about values that stand for nothing."""


class UnknownName(NameMissing):
    """A value is the name of nothing of the kind that is asked for."""

    def __init__(self, name):
        self.name = name
