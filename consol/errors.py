"""The errors of the program, a class for each kind of failure.

Every class stands directly below ConsolError, so that catching one kind of
failure never catches another one.
"""


class ConsolError(ValueError):
    """The base class of all errors of this program."""


class TextError(ConsolError):
    """A text cannot be read; the reason is one word."""

    def __init__(self, line, column, reason):
        self.line = line
        self.column = column
        self.reason = reason


class TooLarge(ConsolError):
    """A limit of size is exceeded."""

    def __init__(self, limit):
        self.limit = limit


class InvalidClaims(ConsolError):
    """Cash and debts are no claims."""

    def __init__(self, reason):
        self.reason = reason


class InvalidSystem(ConsolError):
    """Rows and sides are no system."""

    def __init__(self, reason):
        self.reason = reason


class InvalidNumber(ConsolError):
    """A text is no text of a fraction."""

    def __init__(self, text):
        self.text = text


class UnknownLet(ConsolError):
    """A let is used that is not among the given ones."""

    def __init__(self, name):
        self.name = name


class DuplicateAccount(ConsolError):
    """A bond has an account of this name already."""

    def __init__(self, name):
        self.name = name


class UnknownAccount(ConsolError):
    """There is no account of this name."""

    def __init__(self, name):
        self.name = name


class NotANominee(ConsolError):
    """An account that should stand above others is a holder's."""

    def __init__(self, name):
        self.name = name


class NotAHolder(ConsolError):
    """An account that should hold units itself is a nominee's."""

    def __init__(self, name):
        self.name = name


class NoVote(ConsolError):
    """A holder has no vote, or none any more."""

    def __init__(self, name):
        self.name = name


class DuplicateBond(ConsolError):
    """Two bonds have one name."""

    def __init__(self, name):
        self.name = name


class UnknownBond(ConsolError):
    """There is no bond of this name."""

    def __init__(self, name):
        self.name = name


class NotStraight(ConsolError):
    """The coupon of a bond of a ring is not straight."""

    def __init__(self, name):
        self.name = name


class AccountTaken(ConsolError):
    """The books have an account of this name already, or it is empty."""

    def __init__(self, name):
        self.name = name


class NotNoted(ConsolError):
    """The holders were not noted on this day."""

    def __init__(self, day):
        self.day = day


class InvalidWord(ConsolError):
    """A word is none of those that may stand in its place."""

    def __init__(self, word):
        self.word = word


class Unbalanced(ConsolError):
    """The amounts of a posting do not sum to 0, but to the rest."""

    def __init__(self, rest):
        self.rest = rest


class MissingFact(ConsolError):
    """A fact has no value on a day on which it is needed."""

    def __init__(self, name, day):
        self.name = name
        self.day = day


class MissingRate(ConsolError):
    """A bond has no rate on a day on which it is needed."""

    def __init__(self, name, day):
        self.name = name
        self.day = day


class TooFew(ConsolError):
    """A holder holds fewer units than it should give."""

    def __init__(self, name, held):
        self.name = name
        self.held = held


class NoSingleRate(ConsolError):
    """The rates of a ring are not determined, as the weights show."""

    def __init__(self, ring, weights):
        self.ring = ring
        self.weights = weights


class NoCall(ConsolError):
    """A bond cannot be called on this day."""

    def __init__(self, name, day):
        self.name = name
        self.day = day


class DivisionByZero(ConsolError):
    """A number is divided by 0."""


class TooDeep(ConsolError):
    """Too many nominees would stand above an account."""


class InvalidUnits(ConsolError):
    """A number of units cannot be moved."""


class InvalidDay(ConsolError):
    """A day, a date or a stretch of days does not exist or does not fit."""


class InvalidShare(ConsolError):
    """A share is not above 0 and at most 1."""


class InvalidLine(ConsolError):
    """A line is too long, or has a character that lines do not have."""
