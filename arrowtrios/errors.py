"""The errors of the package: three base classes, and one class for each kind of failure.

Each class keeps its one attribute just as it was given. The classes stand directly
under their base class, so that no handler for one of them catches another one.
"""


class WrongValue(ValueError):
    """A value that is not as described."""

    def __init__(self):
        ValueError.__init__(self)


class InvalidNumber(WrongValue):
    """A value that is not one of the integers that are let here."""

    def __init__(self, given):
        self.given = given


class InvalidNaming(WrongValue):
    """A value that is no naming."""

    def __init__(self, given):
        self.given = given


class InvalidPlace(WrongValue):
    """A value that is no place of a web."""

    def __init__(self, given):
        self.given = given


class InvalidName(WrongValue):
    """A value that is no name of a book."""

    def __init__(self, given):
        self.given = given


class InvalidClaim(WrongValue):
    """A value that is no claim of a book."""

    def __init__(self, given):
        self.given = given


class InvalidIndex(WrongValue):
    """A value that is no index of a claim."""

    def __init__(self, given):
        self.given = given


class InvalidLine(WrongValue):
    """A value that is no line of a console."""

    def __init__(self, given):
        self.given = given


class InvalidBound(WrongValue):
    """A value that is no bound."""

    def __init__(self, given):
        self.given = given


class NotAStanding(WrongValue):
    """A value that is no standing."""

    def __init__(self, given):
        self.given = given


class NotAWeb(WrongValue):
    """A value that is no web."""

    def __init__(self, given):
        self.given = given


class InvalidNumbers(WrongValue):
    """A number that a standing cannot have."""

    def __init__(self, index):
        self.index = index


class InvalidTurns(WrongValue):
    """A value that is no row of turns."""

    def __init__(self, index):
        self.index = index


class InvalidRows(WrongValue):
    """A value that is not the rows of a web."""

    def __init__(self, index):
        self.index = index


class InvalidRemainders(WrongValue):
    """A value that is no triple of remainders."""

    def __init__(self, index):
        self.index = index


class InvalidDeeds(WrongValue):
    """A value that is no deed of a book."""

    def __init__(self, index):
        self.index = index


class WrongName(LookupError):
    """A name that cannot be used here."""

    def __init__(self):
        LookupError.__init__(self)


class UnknownName(WrongName):
    """A name that the book does not have."""

    def __init__(self, given):
        self.given = given


class InUse(WrongName):
    """A name that a claim of the book needs."""

    def __init__(self, index):
        self.index = index


class NoAnswer(ArithmeticError):
    """A question or a change that is let, but cannot be carried out."""

    def __init__(self):
        ArithmeticError.__init__(self)


class TooGreat(NoAnswer):
    """A size that grows beyond what is let."""

    def __init__(self, index):
        self.index = index


class TooMany(NoAnswer):
    """More things than can be listed."""

    def __init__(self, limit):
        self.limit = limit


class NothingToUndo(NoAnswer):
    """No step is left that can be taken back."""

    def __init__(self):
        NoAnswer.__init__(self)


class Broken(NoAnswer):
    """A claim that would hold no more."""

    def __init__(self, index):
        self.index = index
