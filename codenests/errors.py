"""The errors of the package: what is wrong, and where."""


class NestError(ValueError):
    """A value, or a call, that the package refuses."""


class UnlikeGrounds(NestError):
    """Two objects of different grounds, where one ground is needed."""


class TooGreat(NestError):
    """A number that nothing has, or a list that would be too long."""


class NothingDone(NestError):
    """There is no act to undo or to redo."""


class BadGround(NestError):
    """A ground whose first wrong part stands at path."""

    def __init__(self, path):
        self.path = tuple(path)


class BadRow(NestError):
    """A row whose first wrong part stands at path."""

    def __init__(self, path):
        self.path = tuple(path)


class BadCode(NestError):
    """A code whose first wrong part stands at path."""

    def __init__(self, path):
        self.path = tuple(path)


class BadNest(NestError):
    """A nest whose first wrong part stands at path."""

    def __init__(self, path):
        self.path = tuple(path)


class BadPart(NestError):
    """A partial nest whose first wrong part stands at path."""

    def __init__(self, path):
        self.path = tuple(path)


class BadMap(NestError):
    """A map whose first wrong part stands at path."""

    def __init__(self, path):
        self.path = tuple(path)


class BadOrder(NestError):
    """An order whose first wrong part stands at path."""

    def __init__(self, path):
        self.path = tuple(path)


class BadDeed(NestError):
    """The deed with this number cannot be done."""

    def __init__(self, number):
        self.number = number


class BadLevels(NestError):
    """The level with this number cannot stand where it stands."""

    def __init__(self, number):
        self.number = number


class BadText(NestError):
    """A text with its first wrong character at place."""

    def __init__(self, place):
        self.place = place


class BadAct(NestError):
    """An act that is refused; the word tells why."""

    def __init__(self, word):
        self.word = word


class NameMissing(LookupError):
    """Something was asked for that does not exist."""


class NoLevel(NameMissing):
    """There is no such level."""

    def __init__(self, level):
        self.level = level


class UnknownName(NameMissing):
    """There is nothing of this name."""

    def __init__(self, name):
        self.name = name
