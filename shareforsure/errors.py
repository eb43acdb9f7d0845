"""The errors that the package raises."""


class YardError(ValueError):
    """What was passed, or asked for, does not do."""


class BadText(YardError):
    """A text has a first wrong place."""

    def __init__(self, place):
        self.place = place


class BadTree(YardError):
    """A value has a first wrong part, to which a path leads."""

    def __init__(self, path):
        self.path = tuple(path)


class TooGreat(YardError):
    """A text tells too much, or a yard is too great."""


class BadGift(YardError):
    """A giver gave what cannot be given, at the request with a number."""

    def __init__(self, number):
        self.number = number


class BadAct(YardError):
    """An act cannot be done; a word tells why."""

    def __init__(self, word):
        self.word = word


class BadAsk(YardError):
    """A question cannot be answered; a word tells why."""

    def __init__(self, word):
        self.word = word


class NothingDone(YardError):
    """There is nothing to go on with, to take back, or to do again."""


class NameMissing(LookupError):
    """Something was looked for and is not there."""


class UnknownName(NameMissing):
    """Nothing has this name."""

    def __init__(self, name):
        self.name = name
