"""All errors of the package, each under one of three base classes.

No class sets a message of its own: what was wrong may be any value, also one that can't be shown.
"""


class WrongValue(ValueError):
    """A value that is not of the kind or form that is asked for."""


class WrongName(LookupError):
    """A name, a coin or a piece that is not there, or is still needed."""


class NotPossible(ArithmeticError):
    """Values that are right by themselves, but have no answer."""


class InvalidText(WrongValue):
    """A value that is no text of a lot or a purse."""

    def __init__(self, given):
        self.given = given


class InvalidAmount(WrongValue):
    """A value that is no sum within the limits."""

    def __init__(self, given):
        self.given = given


class InvalidCoin(WrongValue):
    """A value that is no coin."""

    def __init__(self, given):
        self.given = given


class InvalidNumber(WrongValue):
    """A value that is no number or index within the limits."""

    def __init__(self, given):
        self.given = given


class InvalidPrice(WrongValue):
    """A value that is no price within the limits."""

    def __init__(self, given):
        self.given = given


class InvalidPurse(WrongValue):
    """A value that is no purse."""

    def __init__(self, given):
        self.given = given


class InvalidName(WrongValue):
    """A value that is no name for a thing on a desk."""

    def __init__(self, given):
        self.given = given


class InvalidWish(WrongValue):
    """A value that is no promise for a desk."""

    def __init__(self, given):
        self.given = given


class InvalidCommand(WrongValue):
    """A value that is no command for a console."""

    def __init__(self, given):
        self.given = given


class NotALot(WrongValue):
    """A value that is no lot."""

    def __init__(self, given):
        self.given = given


class NotAView(WrongValue):
    """A value that is no view."""

    def __init__(self, given):
        self.given = given


class NotAThing(WrongValue):
    """A value that is neither a lot nor a purse."""

    def __init__(self, given):
        self.given = given


class InvalidCoins(WrongValue):
    """What are no coins of a lot."""

    def __init__(self, index):
        self.index = index


class InvalidPayment(WrongValue):
    """What is no payment by a lot."""

    def __init__(self, index):
        self.index = index


class InvalidNames(WrongValue):
    """What can't be named one after the other."""

    def __init__(self, index):
        self.index = index


class InvalidTellings(WrongValue):
    """What are no tellings of a view."""

    def __init__(self, index):
        self.index = index


class InvalidAmounts(WrongValue):
    """What are no ascending sums within the limits."""

    def __init__(self, index):
        self.index = index


class InvalidDeal(WrongValue):
    """What is no deal or swap that can be done."""

    def __init__(self, index):
        self.index = index


class InvalidQueue(WrongValue):
    """What is no queue of guests."""

    def __init__(self, index):
        self.index = index


class InvalidLog(WrongValue):
    """What is no log of a desk."""

    def __init__(self, index):
        self.index = index


class UnknownName(WrongName):
    """What is no name of the desk."""

    def __init__(self, given):
        self.given = given


class InUse(WrongName):
    """A name that a promise has."""

    def __init__(self, index):
        self.index = index


class NoSuchCoin(WrongName):
    """What is no coin of the lot."""

    def __init__(self, given):
        self.given = given


class NoSuchPiece(WrongName):
    """What is no piece of the purse."""

    def __init__(self, given):
        self.given = given


class TooMany(NotPossible):
    """More than the limits allow."""

    def __init__(self, given):
        self.given = given


class NoEnd(NotPossible):
    """What would go on without end."""

    def __init__(self, given):
        self.given = given


class Missed(NotPossible):
    """A sum that the lot misses."""

    def __init__(self, given):
        self.given = given


class NotFull(NotPossible):
    """A purse that is not full."""

    def __init__(self, given):
        self.given = given


class NotSettled(NotPossible):
    """A price that can't be settled."""

    def __init__(self, given):
        self.given = given


class NotAStand(NotPossible):
    """A lot that misses too many sums to be a stand."""

    def __init__(self, given):
        self.given = given


class NoFit(NotPossible):
    """A view that no lot fits."""


class NothingToUndo(NotPossible):
    """No change is left that could be taken back."""


class Broken(NotPossible):
    """A promise that would not hold."""

    def __init__(self, index):
        self.index = index
