"""Deals by a lot: coins are handed over, and some are given back."""

from mintlots.checks import check_price
from mintlots.errors import NotSettled
from mintlots.lengths import brought_down, last_without_greatest
from mintlots.lots import check_lot, divisor, least_totals


def levels_to(coins, price):
    """For no coins, one, two and so on, until the price is settled, the prices that so many settle, as bits.

    The bit of a price is the one that is the greatest coin higher; a price must be a multiple of the divisor.
    """
    beyond = coins[-1]
    # The coins of a deal can be put down such that they never come to less than -beyond or more than price + beyond.
    kept = (1 << (price + 2 * beyond + 1)) - 1
    levels = [1 << beyond]
    while not levels[-1] & (1 << (price + beyond)):
        before = levels[-1]
        bits = 0
        for coin in coins:
            bits |= before << coin | before >> coin
        levels.append(bits & kept)
    return levels


def shortest(lot, price):
    """How often a deal with the fewest coins hands over the greatest coin at once, what is left then, and its levels.

    The price is taken as from 0 on; None if it can't be settled.
    """
    if price % divisor(lot) != 0:
        return None
    coins = lot.coins
    many, left = brought_down(abs(price), coins[-1], last_without_greatest(coins))
    return many, left, levels_to(coins, left)


def least_moved(lot, price):
    """The fewest coins, handed over or given back, that settle a price, None if none do."""
    check_lot(lot)
    check_price(price)
    found = shortest(lot, price)
    if found is None:
        return None
    many, _, levels = found
    return many + len(levels) - 1


def steps_to(coins, bits, place):
    """The pairs of the index and the sign of each coin that leads to the bit at a place from one of these bits."""
    signs = [(at, sign) for sign in (1, -1) for at, coin in enumerate(coins) if sign * coin <= place]
    return [(at, sign) for at, sign in signs if bits & (1 << (place - sign * coins[at]))]


def least_deal(lot, price):
    """A deal with the fewest coins that settles a price."""
    check_lot(lot)
    check_price(price)
    found = shortest(lot, price)
    if found is None:
        raise NotSettled(price)
    many, left, levels = found
    handed = [0] * len(lot.coins)
    back = [0] * len(lot.coins)
    handed[-1] = many
    place = left + lot.coins[-1]
    for bits in reversed(levels[:-1]):
        at, sign = steps_to(lot.coins, bits, place)[0]
        side = handed if sign == 1 else back
        side[at] += 1
        place -= sign * lot.coins[at]
    return (tuple(handed), tuple(back)) if price >= 0 else (tuple(back), tuple(handed))


def moved_losses(lot):
    """The tuple of the least losses of deals of the rests 0, 1, .. by the greatest coin, None where there is none."""
    check_lot(lot)
    high = lot.coins[-1]
    handed = [(coin, high - coin) for coin in lot.coins]
    back = [(-coin, high + coin) for coin in lot.coins]
    return least_totals(handed + back, high)


def worst_rests(lot):
    """The pair of the greatest of the least losses of deals and the ascending tuple of the rests that have it."""
    table = moved_losses(lot)
    greatest = max([loss for loss in table if loss is not None])
    return greatest, tuple([rest for rest, loss in enumerate(table) if loss == greatest])
