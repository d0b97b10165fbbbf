"""The errors of this package."""


class LumpError(ValueError):
    """Any error of this package that is not about a missing name."""


class Alike(LumpError):
    """Two plans are alike where they must not be."""


class TooGreat(LumpError):
    """Something that was asked for is beyond what there is, or too long to tell."""


class TooMany(LumpError):
    """There is more to list than a list may hold."""


class NothingDone(LumpError):
    """There is nothing to undo, or nothing to redo."""


class BadShape(LumpError):
    """A value is no shape; path leads to its first wrong part."""

    def __init__(self, path):
        self.path = tuple(path)


class BadTable(LumpError):
    """A value is no table; path leads to its first wrong part."""

    def __init__(self, path):
        self.path = tuple(path)


class BadPlan(LumpError):
    """Tables and an end make no plan; path leads to the first wrong part."""

    def __init__(self, path):
        self.path = tuple(path)


class NoCut(LumpError):
    """A number is no cut; counter tells why."""

    def __init__(self, counter):
        self.counter = counter


class Unlike(LumpError):
    """What is given does not fit together."""

    def __init__(self, number):
        self.number = number


class BadPlace(LumpError):
    """A value is no place of a row."""

    def __init__(self, number):
        self.number = number


class BadText(LumpError):
    """A text is not of the form that is read; place is its first wrong place."""

    def __init__(self, place):
        self.place = place


class BadAct(LumpError):
    """An act cannot be done; word tells why."""

    def __init__(self, word):
        self.word = word


class NameMissing(LookupError):
    """A name is missing."""


class UnknownName(NameMissing):
    """A name is that of nothing that is kept."""

    def __init__(self, name):
        self.name = name
