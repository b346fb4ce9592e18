"""Slow and plain answers to compare with, and lots to try; nothing here uses the package but for making lots."""

import random
from functools import lru_cache
from math import gcd

from mintlots.lots import Lot

# Behind the greatest coin times itself all multiples of the divisor are paid.
ALL_FROM = 60 * 60


@lru_cache(maxsize=None)
def paid_table(coins, top=ALL_FROM + 200):
    """Whether 0, 1, .. up to `top` are paid, by going on step by step."""
    table = [True]
    for amount in range(1, top + 1):
        table.append(any(coin <= amount and table[amount - coin] for coin in coins))
    return table


def common_divisor(coins):
    return max(number for number in range(1, coins[0] + 1) if all(coin % number == 0 for coin in coins))


def pays(coins, amount):
    """Whether the coins (there may be none) pay a sum of any size."""
    if not coins or amount < 0:
        return amount == 0
    if amount <= ALL_FROM:
        return paid_table(coins)[amount]
    return amount % common_divisor(coins) == 0


def lean_of(coins):
    return tuple(coin for at, coin in enumerate(coins) if not paid_table(coins[:at], 60)[coin])


def least_sums_of(coins, size):
    """The least sums of all rests by looking at each sum from 0 on."""
    least = [None] * size
    for amount, paid in enumerate(paid_table(coins)):
        if paid and least[amount % size] is None:
            least[amount % size] = amount
    return tuple(least)


def missed_of(coins):
    return tuple(amount for amount, paid in enumerate(paid_table(coins)) if not paid)


def all_payments(coins, amount):
    """All payments of a sum, ascending, by trying each number of each coin."""
    if len(coins) == 1:
        return [(amount // coins[0],)] if amount % coins[0] == 0 else []
    found = []
    for many in range(amount // coins[0] + 1):
        left = amount - many * coins[0]
        # Only what has no payment is left out; else long lots would never end.
        if pays(coins[1:], left):
            found.extend((many,) + rest for rest in all_payments(coins[1:], left))
    return found


@lru_cache(maxsize=None)
def number_of_payments(coins, amount):
    """How many payments there are, by how often the last coin stands in them."""
    if not coins:
        return 1 if amount == 0 else 0
    return sum(number_of_payments(coins[:-1], left) for left in range(amount, -1, -coins[-1]))


def times(one, other):
    product = [0] * (len(one) + len(other) - 1)
    for at, left in enumerate(one):
        if left:
            for by, right in enumerate(other):
                product[at + by] += left * right
    return product


def great_number_of_payments(coins, amount):
    """The coefficient of a great power in the product of all 1 / (1 - x ** coin), by halving the power."""
    top, bottom = [1], [1]
    for coin in coins:
        bottom = times(bottom, [1] + [0] * (coin - 1) + [-1])
    while amount:
        turned = [-number if at % 2 else number for at, number in enumerate(bottom)]
        top = times(top, turned)[amount % 2::2] or [0]
        bottom = times(bottom, turned)[::2]
        amount //= 2
    return top[0]


def sum_of(coins, payment):
    return sum(coin * many for coin, many in zip(coins, payment))


def least_common_multiple(coins):
    multiple = 1
    for coin in coins:
        multiple = multiple * coin // gcd(multiple, coin)
    return multiple


def some_coins(seed, number, most=60):
    """Tuples of coins of all lengths, with and without a common divisor, the same ones each time."""
    source = random.Random(seed)
    found = []
    for at in range(number):
        step = (1, 1, 1, 2, 3, 5)[at % 6]
        known = [coin for coin in range(1, most + 1) if coin % step == 0]
        length = min(len(known), 1 + at % 15)
        found.append(tuple(sorted(source.sample(known, length))))
    return found


EDGE_COINS = (
    (1,), (2,), (7,), (60,), (1, 2), (1, 60), (2, 3), (4, 6), (5, 8), (6, 10), (58, 60), (59, 60), (53, 59),
    (3, 5, 7), (6, 10, 15), (4, 6, 8, 10, 13), (6, 9, 20), (10, 15, 60), (20, 30, 45, 60), (57, 58, 59, 60),
    tuple(range(1, 16)), tuple(range(46, 61)), tuple(range(4, 61, 4)), tuple(range(30, 45)),
    (2, 4, 8, 16, 32), (12, 18, 27, 30, 36, 45, 54), (31, 37, 41, 43, 47, 53, 59),
)

TRIED_COINS = EDGE_COINS + tuple(some_coins(1, 90))

TRIED_LOTS = tuple(Lot(coins) for coins in TRIED_COINS)


@lru_cache(maxsize=None)
def lengths_tables(coins, top):
    """The least and the greatest lengths of 0, 1, .. up to `top`, None for what is missed, by going on step by step."""
    fewest, most = [0], [0]
    for amount in range(1, top + 1):
        for table, choose in ((fewest, min), (most, max)):
            ahead = [table[amount - coin] for coin in coins if coin <= amount and table[amount - coin] is not None]
            table.append(choose(ahead) + 1 if ahead else None)
    return fewest, most


def rest_costs(costs, size):
    """The least cost of all sums with the rests 0, 1, .. by `size`; `costs` are pairs of a sum and its cost."""
    least = [None] * size
    for amount, cost in costs:
        if least[amount % size] is None or cost < least[amount % size]:
            least[amount % size] = cost
    return tuple(least)


def losses_of(coins):
    fewest, high = lengths_tables(coins, 2 * ALL_FROM)[0], coins[-1]
    return rest_costs(((at, high * many - at) for at, many in enumerate(fewest) if many is not None), high)


def gains_of(coins):
    most, low = lengths_tables(coins, 2 * ALL_FROM)[1], coins[0]
    return rest_costs(((at, at - low * many) for at, many in enumerate(most) if many is not None), low)


@lru_cache(maxsize=None)
def moved_table(coins, top):
    """The fewest coins, handed over or given back, that settle each price up to `top` either way, coin by coin."""
    known = {0: 0}
    level = [0]
    # On the way no more than one coin beyond the ends is needed; a good deal more is looked at.
    beyond = top + 200
    while level:
        found = []
        for price in level:
            for coin in coins:
                for then in (price + coin, price - coin):
                    if then not in known and abs(then) <= beyond:
                        known[then] = known[price] + 1
                        found.append(then)
        level = found
    return known


def moved_losses_of(coins):
    top = (coins[-1] - 1) * coins[-1] + coins[-1]
    high = coins[-1]
    return rest_costs(((price, high * many - price) for price, many in moved_table(coins, top).items()
                       if abs(price) <= top), high)
