"""Coins are called in or struck: what is lost and gained, what can be spared, and what is needed."""

from mintlots.checks import check_number, count_ascending, is_between
from mintlots.errors import InvalidAmounts, InvalidCoin, Missed, NoEnd, TooMany
from mintlots.limits import MOST_COIN, MOST_COINS, MOST_SMALL, MOST_START, MOST_TOLD
from mintlots.lots import Lot, check_coin_of, check_lot, divisor, is_reached, lean_coins, least_by_rest

# So many coins of a lot can be called in by all orders; the document does not name this limit among the limits.
MOST_CALLED = 8


def without_coin(coins, coin):
    """The coins without one of them."""
    return tuple([other for other in coins if other != coin])


def called_in(lot, coin):
    """The lot without a coin."""
    check_lot(lot)
    check_coin_of(lot, coin)
    if len(lot.coins) == 1:
        raise NoEnd(coin)
    return Lot(without_coin(lot.coins, coin))


def unlike_sums(lot, greater):
    """The ascending tuple of the sums that a lot misses, and one with more coins and the same divisor pays."""
    size = lot.coins[0]
    found = []
    for late, early in zip(least_by_rest(lot.coins, size), least_by_rest(greater.coins, size)):
        # By the same divisor both have a least sum, or none has.
        if late is not None:
            found.extend(list(range(early, late, size)))
    return tuple(sorted(found))


def lost_sums(lot, coin):
    """The ascending tuple of the sums that are lost if a coin is called in."""
    left = called_in(lot, coin)
    if divisor(left) != divisor(lot):
        raise NoEnd(divisor(left))
    return unlike_sums(left, lot)


def struck(lot, coin):
    """The lot with a coin more."""
    check_lot(lot)
    if not is_between(coin, 1, MOST_COIN):
        raise InvalidCoin(coin)
    if coin in lot.coins:
        return lot
    if len(lot.coins) == MOST_COINS:
        raise TooMany(MOST_COINS + 1)
    return Lot(tuple(sorted(lot.coins + (coin,))))


def gained_sums(lot, coin):
    """The ascending tuple of the sums that are gained if a coin is struck."""
    greater = struck(lot, coin)
    if divisor(greater) != divisor(lot):
        raise NoEnd(divisor(lot))
    return unlike_sums(lot, greater)


def check_amounts(amounts):
    """InvalidAmounts for what are no ascending small sums, few enough to be told."""
    if not isinstance(amounts, tuple):
        raise InvalidAmounts(None)
    right = count_ascending(amounts, 0, MOST_SMALL, MOST_TOLD)
    if right < len(amounts):
        raise InvalidAmounts(right)


def first_missed(coins, amounts):
    """The first of the sums that the coins miss, None if they pay all."""
    table = least_by_rest(coins, coins[0])
    for amount in amounts:
        if not is_reached(table, amount):
            return amount
    return None


def check_told(lot, amounts):
    """The errors of right arguments: a told sum that the lot misses, and too many coins."""
    amount = first_missed(lot.coins, amounts)
    if amount is not None:
        raise Missed(amount)
    if len(lot.coins) > MOST_CALLED:
        raise TooMany(len(lot.coins))


def spared(coins, amounts):
    """The lots, told by their coins, that are left and pay all told sums when one coin more is called in."""
    if len(coins) == 1:
        return []
    left = [without_coin(coins, coin) for coin in coins]
    return [others for others in left if first_missed(others, amounts) is None]


def orders_to_kept(coins, amounts):
    """For the coins of each kept lot in how many orders the other coins can be called in."""
    kept = {}
    # All lots of a stage have the same number of coins, so each lot is met in one stage only.
    stage = {coins: 1}
    while stage:
        later = {}
        for some, number in stage.items():
            left = spared(some, amounts)
            if not left:
                kept[some] = number
            for others in left:
                later[others] = later.get(others, 0) + number
        stage = later
    return kept


def kept_lots(lot, amounts):
    """The ascending tuple of the coins of all lots that are left when no coin can be spared."""
    check_lot(lot)
    check_amounts(amounts)
    check_told(lot, amounts)
    return tuple(sorted(orders_to_kept(lot.coins, amounts)))


def calling_orders(lot, amounts):
    """In how many orders coins can be called in, one after the other, until a kept lot is left."""
    check_lot(lot)
    check_amounts(amounts)
    check_told(lot, amounts)
    return sum(list(orders_to_kept(lot.coins, amounts).values()))


def amounts_between(coins, low, high, are_paid):
    """The sums from `low` to less than `high` that the coins pay, or miss."""
    table = least_by_rest(coins, coins[0])
    return tuple([amount for amount in range(low, high) if is_reached(table, amount) == are_paid])


def coins_behind(coins, start):
    """The coins from `start` on of the lean lot that pays what these coins pay below it, and all from there on."""
    # From twice the start on the coin `start` or a lesser one leads down to what is paid, too.
    wanted = amounts_between(coins, 1, start, True) + tuple(range(start, 2 * start))
    return tuple([coin for coin in lean_coins(wanted) if coin >= start])


def strikes(lot, least, start):
    """As few coins as can be, none below `least`, with which the lot pays all sums from `start` on."""
    check_lot(lot)
    check_number(least, 1, MOST_START)
    check_number(start, least, MOST_START)
    choices = [()]
    for amount in amounts_between(lot.coins, least, start, False):
        choices = choices + [chosen + (amount,) for chosen in choices]
    found = []
    for chosen in choices:
        needed = coins_behind(lot.coins + chosen, start)
        found.append(chosen + tuple([coin for coin in needed if coin not in lot.coins]))
    return min(found, key=len)
