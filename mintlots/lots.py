"""Lots of coins, and which sums they pay."""

from math import gcd

from mintlots.checks import check_amount, count_ascending, is_integer
from mintlots.errors import InvalidCoins, InvalidText, NoEnd, NoSuchCoin, NotALot, TooMany
from mintlots.limits import MOST_COIN, MOST_COINS


class Lot:
    """One to fifteen coins from 1 to 60, ascending; each can be had as often as one likes."""

    def __init__(self, coins):
        if not isinstance(coins, tuple) or len(coins) == 0:
            raise InvalidCoins(None)
        right = count_right(coins)
        if right < len(coins):
            raise InvalidCoins(right)
        self._coins = coins

    @classmethod
    def read(cls, text):
        """The lot with this text."""
        if not isinstance(text, str):
            raise InvalidText(text)
        coins = coins_in(text)
        if count_right(coins) < len(coins):
            raise InvalidText(text)
        return cls(coins)

    @property
    def coins(self):
        """The ascending tuple of the coins."""
        return self._coins

    def __eq__(self, other):
        return isinstance(other, Lot) and self._coins == other._coins

    def __str__(self):
        return " ".join([str(coin) for coin in self._coins])


def count_right(coins):
    """How many of them, from the first one on, can stand in a lot; this is the index of the first wrong one."""
    return count_ascending(coins, 1, MOST_COIN, MOST_COINS)


def coins_in(text):
    """The coins that the words of a text tell, None for a word that tells none."""
    # A table of the right words leaves no room for signs, blanks or noughts that `int` would let pass.
    told = {str(coin): coin for coin in range(1, MOST_COIN + 1)}
    return tuple([told.get(word) for word in text.split(" ")])


def check_lot(lot):
    """NotALot for what is no lot."""
    if not isinstance(lot, Lot):
        raise NotALot(lot)


def check_coin_of(lot, coin):
    """NoSuchCoin for what is no coin of the lot."""
    if not is_integer(coin) or coin not in lot.coins:
        raise NoSuchCoin(coin)


def divisor(lot):
    """The greatest number that divides all coins."""
    check_lot(lot)
    common = 0
    for coin in lot.coins:
        common = gcd(common, coin)
    return common


def lean_coins(coins):
    """The coins, told from the least to the greatest, that lesser ones do not pay."""
    most = coins[-1]
    paid = [True] + [False] * most
    kept = []
    for coin in coins:
        if not paid[coin]:
            kept.append(coin)
            for amount in range(coin, most + 1):
                paid[amount] = paid[amount] or paid[amount - coin]
    return tuple(kept)


def lean(lot):
    """The lot without needless coins."""
    check_lot(lot)
    return Lot(lean_coins(lot.coins))


def put_step(table, step, cost):
    """Lowers the least totals in a table, one for each rest, to what they are with one kind of steps more."""
    size = len(table)
    common = gcd(size, step)
    for start in range(common):
        at = start
        # The step leads through all rests of a round; the least one may be met last, so the round is gone twice.
        for _ in range(2 * (size // common)):
            then = (at + step) % size
            if table[at] is not None and (table[then] is None or table[at] + cost < table[then]):
                table[then] = table[at] + cost
            at = then


def least_totals(steps, size):
    """The tuple of the least costs that lead to the rests 0, 1, .. by `size`, None for none; a step is (STEP, COST)."""
    table = [0] + [None] * (size - 1)
    for step, cost in steps:
        put_step(table, step, cost)
    return tuple(table)


def least_by_rest(coins, size):
    """The tuple of the least sums, of those that the coins pay, with the rests 0, 1, .. by `size`, None for none."""
    return least_totals([(coin, coin) for coin in coins], size)


def is_reached(table, amount):
    """Whether a sum is paid, by the least sums of the rests by some coin."""
    least = table[amount % len(table)]
    return least is not None and least <= amount


def is_paid(lot, amount):
    """Whether the lot pays a sum."""
    check_lot(lot)
    check_amount(amount)
    return is_reached(least_by_rest(lot.coins, lot.coins[0]), amount)


def least_sums(lot, coin):
    """The tuple of the least sums of the rests 0, 1, .. by a coin of the lot, None where there is none."""
    check_lot(lot)
    check_coin_of(lot, coin)
    return least_by_rest(lot.coins, coin)


def ending_table(lot):
    """The least sums of the rests by the least coin, of a lot that misses finitely many sums."""
    common = divisor(lot)
    if common > 1:
        raise NoEnd(common)
    return least_by_rest(lot.coins, lot.coins[0])


def missed(lot):
    """The ascending tuple of the sums that the lot misses."""
    table = ending_table(lot)
    size = len(table)
    return tuple(sorted([amount for rest, least in enumerate(table) for amount in range(rest, least, size)]))


def count_missed(lot):
    """How many sums the lot misses."""
    table = ending_table(lot)
    return sum([least // len(table) for least in table])


def last_missed(lot):
    """The greatest sum that the lot misses, None if it misses none."""
    table = ending_table(lot)
    last = max(table) - len(table)
    return last if last > 0 else None


def pay_alike(one, other):
    """Whether both lots pay the same sums."""
    return first_unlike(one, other) is None


def first_unlike(one, other):
    """The least sum that just one of both lots pays, None if there is none."""
    check_lot(one)
    check_lot(other)
    unlike = sorted(set(lean_coins(one.coins)) ^ set(lean_coins(other.coins)))
    return unlike[0] if unlike else None


def is_within(one, other):
    """Whether the other lot pays all that the first one pays."""
    check_lot(one)
    check_lot(other)
    table = least_by_rest(other.coins, other.coins[0])
    return all([is_reached(table, coin) for coin in one.coins])


def joined(one, other):
    """The lean lot of all coins of both lots."""
    check_lot(one)
    check_lot(other)
    coins = lean_coins(sorted(one.coins + other.coins))
    if len(coins) > MOST_COINS:
        raise TooMany(len(coins))
    return Lot(coins)
