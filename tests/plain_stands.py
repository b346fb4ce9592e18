"""Slow and plain answers about naming, hidden lots and coins called in or struck."""

import itertools
import random
from functools import lru_cache

from tests import plain


def behind(sums, name):
    """The sums still missed when one of the missed ones is named, by trying each number of it."""
    def is_paid(total):
        return any(left == 0 or left not in sums for left in range(total, -1, -name))
    return tuple(total for total in sums if not is_paid(total))


@lru_cache(maxsize=None)
def wins(sums):
    """Whether who is to move wins, by going through all names."""
    return not sums or any(not wins(behind(sums, name)) for name in sums)


@lru_cache(maxsize=None)
def end_of(sums):
    """How many names are still made, by going through all names."""
    if not sums:
        return 0
    if wins(sums):
        return 1 + min(end_of(behind(sums, name)) for name in sums if not wins(behind(sums, name)))
    return 1 + max(end_of(behind(sums, name)) for name in sums)


def coins_missing(sums):
    """The coins of the lean lot that misses just these sums: paid sums that no two paid sums come to."""
    top = 2 * max(sums, default=0) + 2
    paid = [total for total in range(1, top + 1) if total not in sums]
    return tuple(coin for coin in paid if not any(less in paid and coin - less in paid for less in range(1, coin)))


@lru_cache(maxsize=None)
def stands_missing(number):
    """The sums that all stands with so many missed sums miss, each found from those that miss one less."""
    if number == 0:
        return [()]
    found = set()
    for sums in stands_missing(number - 1):
        for coin in coins_missing(sums):
            if coin > max(sums, default=0):
                found.add(sums + (coin,))
    return sorted(found)


def tried_stands():
    """The missed sums of all stands that miss few sums, and of some that miss up to fourteen."""
    source = random.Random(23)
    found = [sums for number in range(8) for sums in stands_missing(number)]
    for number in range(8, 15):
        found += source.sample(stands_missing(number), 40)
    return found


@lru_cache(maxsize=None)
def sound_sets():
    """All sets of sums below twelve that can be just what is paid there, by going through all sets."""
    found = []
    for number in range(12):
        for paid in itertools.combinations(range(1, 12), number):
            if all(one + other > 11 or one + other in paid for one in paid for other in paid):
                found.append(paid)
    return found


@lru_cache(maxsize=None)
def sound_coins():
    """The coins of all sound lots, by what each pays."""
    return sorted(coins_missing(tuple(total for total in range(1, 12) if total not in paid)) for paid in sound_sets())


def holds(telling, coins):
    """Whether a telling holds for a lot, told by its coins."""
    word, amount = telling[:2]
    if word in ("paid", "missed"):
        return plain.pays(coins, amount) == (word == "paid")
    if word == "ways":
        return plain.number_of_payments(coins, amount) == telling[2]
    return plain.lengths_tables(coins, 40)[("least", "most").index(word)][amount] == telling[2]


def fitting(tellings):
    return tuple(coins for coins in sound_coins() if all(holds(telling, coins) for telling in tellings))


def some_tellings(seed, number):
    """Tuples of tellings of all kinds, most of them true of some lot; the same ones each time."""
    source = random.Random(seed)
    found = []
    while len(found) < number:
        coins = source.choice(sound_coins())
        tellings = []
        for _ in range(source.randint(0, 6)):
            amount = source.randint(1, source.choice((11, 11, 20, 40)))
            word = source.choice(("paid", "missed", "ways", "least", "most"))
            if word in ("least", "most"):
                count = plain.lengths_tables(coins, 40)[("least", "most").index(word)][amount]
                tellings.append((word, amount, source.randint(0, 3) if count is None else count))
            elif word == "ways":
                tellings.append((word, amount, plain.number_of_payments(coins, amount)))
            else:
                tellings.append(("paid" if plain.pays(coins, amount) else "missed", amount))
        found.append(tuple(tellings))
    return found


def plain_tellings(seed, number):
    """The same with tellings of the first two kinds alone; some are not true together."""
    source = random.Random(seed)
    found = []
    while len(found) < number:
        coins = source.choice(sound_coins())
        asked = [source.randint(1, 14) for _ in range(source.randint(0, 7))]
        tellings = [("paid" if plain.pays(coins, amount) else "missed", amount) for amount in asked]
        if tellings and len(found) % 5 == 4:
            word, amount = tellings[-1]
            tellings[-1] = ("missed" if word == "paid" else "paid", amount)
        found.append(tuple(tellings))
    return found


def some_of(coins):
    """All lots of some of the coins, the lot itself and those of one coin included."""
    return [some for number in range(1, len(coins) + 1) for some in itertools.combinations(coins, number)]


def calling_ends(coins, amounts):
    """What is left at last in each order of calling in, one entry for each order."""
    left = [tuple(other for other in coins if other != coin) for coin in coins]
    left = [some for some in left if some and all(plain.pays(some, amount) for amount in amounts)]
    if not left:
        return [coins]
    return [last for some in left for last in calling_ends(some, amounts)]
