"""Sums that are paid in one way, or in a few ways only."""

from mintlots.checks import MOST_STEP, check_number, check_payment
from mintlots.errors import NoEnd, TooMany
from mintlots.limits import MOST_WAYS
from mintlots.lots import check_lot
from mintlots.payments import first_payment, last_payment, sum_paid


def ways_by_coins(rows, coins, most):
    """How many payments the sum behind the rows has by the first coin, the first two, and so on, counted to `most`."""
    amount = len(rows)
    number = 1 if amount == 0 else 0
    row = []
    for at, coin in enumerate(coins):
        if coin <= amount:
            number = min(number + rows[amount - coin][at], most)
        row.append(number)
    return row


def few_sums(lot, ways):
    """The ascending tuple of the sums that are paid in at least one and at most so many ways."""
    check_lot(lot)
    check_number(ways, 1, MOST_WAYS)
    coins = lot.coins
    if len(coins) == 1:
        raise NoEnd(coins[0])
    rows = []
    found = []
    last = 0
    # Such a sum less one of its coins is paid in no more ways; so the next one is at most the greatest coin behind.
    while len(rows) <= last + coins[-1]:
        row = ways_by_coins(rows, coins, ways + 1)
        if 1 <= row[-1] <= ways:
            last = len(rows)
            found.append(last)
        rows.append(row)
    return tuple(found)


def single_sums(lot):
    """The ascending tuple of the sums that are paid in just one way."""
    return few_sums(lot, 1)


def last_single(lot):
    """The greatest sum that is paid in just one way."""
    return single_sums(lot)[-1]


def is_single(lot, payment):
    """Whether a payment is the only one of its sum."""
    return other_payment(lot, payment) is None


def other_payment(lot, payment):
    """Another payment of the same sum, None if there is none."""
    check_lot(lot)
    check_payment(payment, len(lot.coins))
    amount = sum_paid(lot, payment)
    if amount > MOST_STEP:
        raise TooMany(amount)
    first = first_payment(lot, amount)
    if first != payment:
        return first
    last = last_payment(lot, amount)
    return last if last != payment else None
