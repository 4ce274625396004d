"""The errors of the package, each under one of Python's own."""


class NoHold(LookupError):
    """A HOLD is wanted in a BOOK and is not there."""

    def __init__(self, hold):
        self.hold = hold


class NoMember(LookupError):
    """A string ought to be a MEMBER, or a NAME of an EDGE, and is none."""

    def __init__(self, name):
        self.name = name


class NoNumber(LookupError):
    """None of several is told by this number."""

    def __init__(self, number):
        self.number = number


class NothingDone(LookupError):
    """There is no deed that could be taken back."""


class BadLine(ValueError):
    """The line with this number can not stand where it stands in a text."""

    def __init__(self, number):
        self.number = number


class Barred(ValueError):
    """The DEED with this number may not be done in its row."""

    def __init__(self, number):
        self.number = number


class Twice(ValueError):
    """This NAME is that of a MEMBER already."""

    def __init__(self, name):
        self.name = name


class Unfit(ValueError):
    """What is handed in does not fit."""
