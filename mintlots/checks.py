"""Checks of arguments that several modules share."""

from mintlots.errors import InvalidAmount, InvalidNumber, InvalidPayment, InvalidPrice, InvalidPurse
from mintlots.limits import MOST_AMOUNT, MOST_PIECE, MOST_PIECES, MOST_SMALL

# The document names this limit at each place where it holds, but not among the limits.
MOST_STEP = 4000


def is_integer(value):
    """Whether it is an integer; Python would count True and False as such, too."""
    return isinstance(value, int) and not isinstance(value, bool)


def is_between(value, low, high):
    """Whether it is an integer from `low` to `high`, both included."""
    return is_integer(value) and low <= value <= high


def is_number(value):
    """Whether it is an integer from 0 on."""
    return is_integer(value) and value >= 0


def count_ascending(values, low, high, most):
    """How many of them, from the first one on, can stand in an ascending tuple of at most so many integers.

    These are from `low` to `high`. What is told is the index of the first wrong one, if there is one.
    """
    ahead = low - 1
    for at, value in enumerate(values):
        if at == most or not is_between(value, ahead + 1, high):
            return at
        ahead = value
    return len(values)


def check_amount(amount):
    """InvalidAmount for what is no sum that the package takes."""
    if not is_between(amount, 0, MOST_AMOUNT):
        raise InvalidAmount(amount)


def is_small(value):
    """Whether it is a small sum."""
    return is_between(value, 0, MOST_SMALL)


def check_small(small):
    """InvalidAmount for what is no small sum."""
    if not is_small(small):
        raise InvalidAmount(small)


def is_price(value):
    """Whether it is a price that the package takes."""
    return is_between(value, -MOST_AMOUNT, MOST_AMOUNT)


def check_price(price):
    """InvalidPrice for what is no price that the package takes."""
    if not is_price(price):
        raise InvalidPrice(price)


def check_number(number, low, high):
    """InvalidNumber for what is no integer from `low` to `high`."""
    if not is_between(number, low, high):
        raise InvalidNumber(number)


def check_lost(lost):
    """InvalidNumber for what is no number of pieces that a purse can lose and have one left."""
    check_number(lost, 0, MOST_PIECES - 1)


def is_purse(value):
    """Whether it is a purse: a tuple of a few pieces, none less than the one ahead."""
    if not isinstance(value, tuple) or len(value) > MOST_PIECES:
        return False
    ahead = 1
    for piece in value:
        if not is_between(piece, ahead, MOST_PIECE):
            return False
        ahead = piece
    return True


def check_purse(purse):
    """InvalidPurse for what is no purse."""
    if not is_purse(purse):
        raise InvalidPurse(purse)


def count_told(payment, kinds):
    """How many elements of a tuple, from the first one on, can stand in a payment by so many kinds of coins."""
    for at, many in enumerate(payment):
        if at == kinds or not is_number(many):
            return at
    return len(payment)


def is_payment(value, kinds):
    """Whether it is a payment by a lot of so many kinds of coins."""
    return isinstance(value, tuple) and len(value) == kinds and count_told(value, kinds) == kinds


def check_payment(payment, kinds):
    """InvalidPayment for what is no payment by a lot of so many kinds of coins."""
    if not isinstance(payment, tuple):
        raise InvalidPayment(None)
    told = count_told(payment, kinds)
    if told < len(payment) or told < kinds:
        raise InvalidPayment(told)
