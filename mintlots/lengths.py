"""How few and how many coins pay a sum, and what lies between."""

from math import gcd, lcm

from mintlots.checks import check_amount, check_small
from mintlots.errors import Missed
from mintlots.lots import check_lot, divisor, least_totals

# What is looked for; lengths times this sign are least where it is reached.
FEWEST = 1
MOST = -1


def last_without_greatest(coins):
    """Behind this sum each payment with the fewest coins has the greatest coin."""
    greatest = coins[-1]
    # With one coin only 0 has none; any bound from here on lets all other sums be brought down to less than the coin.
    ahead = coins[-2] if len(coins) > 1 else 1
    return (greatest - 1) * ahead


def last_without_least(coins):
    """Behind this sum each payment with the most coins has the least coin."""
    return (coins[0] - 1) * coins[-1]


def brought_down(amount, coin, last):
    """How many coins must be taken from a sum until it is not above `last`, and what is left then."""
    many = max(0, -((last - amount) // coin))
    return many, amount - many * coin


def length_table(coins, last, sign):
    """The list of the least or greatest lengths of 0, 1, .. up to `last`, None for what is missed."""
    table = [0] + [None] * last
    for coin in coins:
        for amount in range(coin, last + 1):
            ahead = table[amount - coin]
            now = table[amount]
            if ahead is not None and (now is None or sign * (ahead + 1) < sign * now):
                table[amount] = ahead + 1
    return table


def frequent_place(sign):
    """The index of the coin that stands in all payments of great sums with the fewest or most coins."""
    return -1 if sign == FEWEST else 0


def shortened(coins, amount, sign):
    """How often that coin must stand in such a payment of a sum, and the lengths of all sums up to what is left."""
    last = last_without_greatest(coins) if sign == FEWEST else last_without_least(coins)
    many, left = brought_down(amount, coins[frequent_place(sign)], last)
    return many, length_table(coins, left, sign)


def length_of(lot, amount, sign):
    """The least or greatest length of a sum, None if it is missed."""
    check_lot(lot)
    check_amount(amount)
    many, table = shortened(lot.coins, amount, sign)
    return None if table[-1] is None else many + table[-1]


def least(lot, amount):
    """The fewest coins that pay a sum, None if it is missed."""
    return length_of(lot, amount, FEWEST)


def most(lot, amount):
    """The most coins that pay a sum, None if it is missed."""
    return length_of(lot, amount, MOST)


def place_behind(coins, table, amount):
    """The index of a coin without which a payment of a sum has the told length of what is left."""
    fitting = [at for at, coin in enumerate(coins) if coin <= amount and table[amount - coin] == table[amount] - 1]
    return fitting[0]


def payment_of_length(lot, amount, sign):
    """A payment of a sum with the least or greatest length."""
    check_lot(lot)
    check_amount(amount)
    many, table = shortened(lot.coins, amount, sign)
    if table[-1] is None:
        raise Missed(amount)
    payment = [0] * len(lot.coins)
    payment[frequent_place(sign)] = many
    left = len(table) - 1
    while left > 0:
        at = place_behind(lot.coins, table, left)
        payment[at] += 1
        left -= lot.coins[at]
    return tuple(payment)


def least_payment(lot, amount):
    """A payment of a sum with the fewest coins."""
    return payment_of_length(lot, amount, FEWEST)


def most_payment(lot, amount):
    """A payment of a sum with the most coins."""
    return payment_of_length(lot, amount, MOST)


def lengths(lot, small):
    """The ascending tuple of all lengths of payments of a sum."""
    check_lot(lot)
    check_small(small)
    # The lengths of each sum are bits.
    table = [1] + [0] * small
    for coin in lot.coins:
        for amount in range(coin, small + 1):
            table[amount] = table[amount] | table[amount - coin] << 1
    return tuple([many for many in range(small + 1) if table[small] & 1 << many])


def length_step(lot):
    """The greatest number that divides all differences of lengths of payments of one sum, 0 for one coin."""
    check_lot(lot)
    common = 0
    for coin in lot.coins:
        common = gcd(common, coin - lot.coins[0])
    return common // divisor(lot)


def stretch(lot):
    """The greatest ratio of two lengths of one sum in lowest terms, and the least sum from 1 on that has it."""
    check_lot(lot)
    low = lot.coins[0]
    high = lot.coins[-1]
    common = gcd(low, high)
    return high // common, low // common, lcm(low, high)


def losses(lot):
    """The tuple of the least losses of the rests 0, 1, .. by the greatest coin, None where there is none."""
    check_lot(lot)
    high = lot.coins[-1]
    return least_totals([(coin, high - coin) for coin in lot.coins], high)


def gains(lot):
    """The tuple of the least gains of the rests 0, 1, .. by the least coin, None where there is none."""
    check_lot(lot)
    low = lot.coins[0]
    return least_totals([(coin, coin - low) for coin in lot.coins], low)


def lag(one, other):
    """By how many coins the first lot falls behind the other one, and the least sum for it; None if without end."""
    check_lot(one)
    check_lot(other)
    high = one.coins[-1]
    other_high = other.coins[-1]
    if high < other_high:
        return None
    last = max(last_without_greatest(one.coins), last_without_greatest(other.coins)) + lcm(high, other_high)
    here = length_table(one.coins, last, FEWEST)
    there = length_table(other.coins, last, FEWEST)
    found = (0, 0)
    for amount, length in enumerate(here):
        if length is not None and there[amount] is not None and length - there[amount] > found[0]:
            found = (length - there[amount], amount)
    return found
