"""Payments of a sum by a lot: how many there are, and which."""

from math import comb, lcm

from mintlots.checks import check_amount, check_payment, check_small, is_between
from mintlots.errors import InvalidNumber, Missed, TooMany
from mintlots.limits import MOST_LISTED, MOST_PERIOD, MOST_SMALL
from mintlots.lots import check_lot, is_paid, is_reached, least_by_rest


def put_ways(ways, coin):
    """Raises the numbers of payments of 0, 1, .. to what they are with a coin more."""
    for amount in range(coin, len(ways)):
        ways[amount] += ways[amount - coin]


def count_ways(coins, most):
    """How many payments 0, 1, .. up to `most` have by the coins."""
    ways = [1] + [0] * most
    for coin in coins:
        put_ways(ways, coin)
    return ways


def tail_ways(coins, most):
    """For each index how many payments 0, 1, .. up to `most` have by the coins from there on; last by none."""
    ways = count_ways((), most)
    tables = [ways]
    for coin in reversed(coins):
        ways = list(ways)
        put_ways(ways, coin)
        tables.append(ways)
    return tables[::-1]


def sum_paid(lot, payment):
    """What a payment comes to."""
    return sum([coin * many for coin, many in zip(lot.coins, payment)])


def payment_at(coins, tables, amount, place):
    """The payment at a place among all payments of a sum, by their `tail_ways`."""
    payment = []
    left = amount
    ahead = place
    for at, coin in enumerate(coins):
        ways = tables[at + 1]
        many = 0
        while ahead >= ways[left]:
            ahead -= ways[left]
            left -= coin
            many += 1
        payment.append(many)
    return tuple(payment)


def count_payments(lot, small):
    """How many payments of a sum there are."""
    check_lot(lot)
    check_small(small)
    return count_ways(lot.coins, small)[small]


def payments(lot, small):
    """The ascending tuple of all payments of a sum."""
    check_lot(lot)
    check_small(small)
    tables = tail_ways(lot.coins, small)
    number = tables[0][small]
    if number > MOST_LISTED:
        raise TooMany(number)
    return tuple([payment_at(lot.coins, tables, small, place) for place in range(number)])


def nth_payment(lot, small, index):
    """The payment with this index among all payments of a sum, ascending."""
    check_lot(lot)
    check_small(small)
    tables = tail_ways(lot.coins, small)
    if not is_between(index, 0, tables[0][small] - 1):
        raise InvalidNumber(index)
    return payment_at(lot.coins, tables, small, index)


def place_of(lot, payment):
    """The index of a payment among all payments of its sum, ascending."""
    check_lot(lot)
    check_payment(payment, len(lot.coins))
    left = sum_paid(lot, payment)
    if left > MOST_SMALL:
        raise TooMany(left)
    tables = tail_ways(lot.coins, left)
    place = 0
    for at, coin in enumerate(lot.coins):
        for _ in range(payment[at]):
            place += tables[at + 1][left]
            left -= coin
    return place


def fewest_of_first(coins, amount):
    """How often the first coin must stand in a payment of a sum that the coins pay."""
    coin = coins[0]
    others = coins[1:]
    if not others:
        return amount // coin
    table = least_by_rest(others, others[0])
    many = 0
    # As many coins more as another coin tells lead to the same rest by it, and to less; so this ends soon.
    while not is_reached(table, amount - many * coin):
        many += 1
    return many


def most_of_first(coins, amount):
    """How often the first coin can stand in a payment of a sum that the coins pay."""
    coin = coins[0]
    # The others must pay what has the same rest by the first coin, so at least the least sum of this rest.
    least = least_by_rest(coins, coin)[amount % coin]
    return (amount - least) // coin


def chosen_payment(lot, amount, choose):
    """The payment of a sum in which `choose` tells how often each coin stands, by the coins from it on and the rest."""
    if not is_paid(lot, amount):
        raise Missed(amount)
    payment = []
    left = amount
    for at, coin in enumerate(lot.coins):
        many = choose(lot.coins[at:], left)
        payment.append(many)
        left -= many * coin
    return tuple(payment)


def first_payment(lot, amount):
    """The least payment of a sum."""
    return chosen_payment(lot, amount, fewest_of_first)


def last_payment(lot, amount):
    """The greatest payment of a sum."""
    return chosen_payment(lot, amount, most_of_first)


def common_multiple(coins):
    """The least common multiple of all coins."""
    multiple = 1
    for coin in coins:
        multiple = lcm(multiple, coin)
    return multiple


def polynomial_at(values, place):
    """The value at a place of the polynomial that has these values at 0, 1, .., its degree less than their number."""
    total = 0
    differences = values
    for degree in range(len(values)):
        total += differences[0] * comb(place, degree)
        differences = [then - now for now, then in zip(differences, differences[1:])]
    return total


def great_count(lot, amount):
    """How many payments of a sum there are, also of a great one."""
    check_lot(lot)
    check_amount(amount)
    period = common_multiple(lot.coins)
    if period > MOST_PERIOD:
        raise TooMany(period)
    rounds, rest = divmod(amount, period)
    # The number of payments is one polynomial for all sums with this rest, of a degree less than the number of coins.
    values = count_ways(lot.coins, rest + (len(lot.coins) - 1) * period)[rest::period]
    return polynomial_at(values, rounds)
