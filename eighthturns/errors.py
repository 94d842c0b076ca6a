"""The errors of the package, each with what it is told."""


class NoPlace(LookupError):
    """This number is no place."""

    def __init__(self, number):
        self.number = number


class NoWire(LookupError):
    """This number is no wire."""

    def __init__(self, number):
        self.number = number


class NoGate(LookupError):
    """This number is not that of a GATE."""

    def __init__(self, number):
        self.number = number


class NoEdit(LookupError):
    """This number is not that of an edit."""

    def __init__(self, number):
        self.number = number


class NoWord(LookupError):
    """No CLAIM begins with this word."""

    def __init__(self, word):
        self.word = word


class NothingDone(LookupError):
    """There is no edit to take back or to put back."""


class Unfit(ValueError):
    """What was handed in does not fit."""


class NoPaper(ValueError):
    """There is no such PAPER."""


class TooMany(ValueError):
    """It is more than the document lets be asked."""


class BadLine(ValueError):
    """The line of this number is not as told."""

    def __init__(self, number):
        self.number = number
