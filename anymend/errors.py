"""The errors of the package.

Each one is created from its fields and keeps them just as they are given.
No message is made of them here: a field may be any value, also one that
cannot be written as text.
"""


class MendError(ValueError):
    """Any failure that this package reports."""


class BadText(MendError):
    """A text that is wrong at a line and a column; both are 0 if it is no text."""

    def __init__(self, line, column):
        self.line = line
        self.column = column


class BadNumber(MendError):
    """A value that is not what was asked for; what tells which one."""

    def __init__(self, what, number):
        self.what = what
        self.number = number


class BadName(MendError):
    """A value that cannot be a name."""

    def __init__(self, name):
        self.name = name


class BadLot(MendError):
    """A value that is no lot of the store."""

    def __init__(self, lot):
        self.lot = lot


class NoName(MendError):
    """A name that means nothing here."""

    def __init__(self, name):
        self.name = name


class TakenName(MendError):
    """A name that means something already."""

    def __init__(self, name):
        self.name = name


class TooSmall(MendError):
    """A prime that is not above its bound."""

    def __init__(self, prime, bound):
        self.prime = prime
        self.bound = bound


class TooMany(MendError):
    """More of something than its limit allows."""

    def __init__(self, what, many, limit):
        self.what = what
        self.many = many
        self.limit = limit


class NotKept(MendError):
    """A promise that a witness shows to be broken."""

    def __init__(self, promise, witness):
        self.promise = promise
        self.witness = witness


class NothingToUndo(MendError):
    """There is nothing that could be undone."""


class NothingToRedo(MendError):
    """There is nothing that could be redone."""
