"""Checks of arguments that several modules share."""

from mintlots.errors import InvalidAmount, InvalidPayment
from mintlots.limits import MOST_AMOUNT, MOST_SMALL


def is_integer(value):
    """Whether it is an integer; Python would count True and False as such, too."""
    return isinstance(value, int) and not isinstance(value, bool)


def is_between(value, low, high):
    """Whether it is an integer from `low` to `high`, both included."""
    return is_integer(value) and low <= value <= high


def check_amount(amount):
    """InvalidAmount for what is no sum that the package takes."""
    if not is_between(amount, 0, MOST_AMOUNT):
        raise InvalidAmount(amount)


def check_small(small):
    """InvalidAmount for what is no small sum."""
    if not is_between(small, 0, MOST_SMALL):
        raise InvalidAmount(small)


def check_payment(payment, kinds):
    """InvalidPayment for what is no payment by a lot of so many kinds of coins."""
    if not isinstance(payment, tuple):
        raise InvalidPayment(None)
    for at, many in enumerate(payment):
        if at == kinds or not is_integer(many) or many < 0:
            raise InvalidPayment(at)
    if len(payment) < kinds:
        raise InvalidPayment(len(payment))
