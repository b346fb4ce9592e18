"""Slow and plain answers about purses, deals, queues and partings; nothing here uses the package."""

import itertools
import random
from functools import lru_cache


@lru_cache(maxsize=None)
def parts(purse):
    """All purses of some of the pieces, each once."""
    return sorted({part for many in range(len(purse) + 1) for part in itertools.combinations(purse, many)})


def wholes(purse):
    """What some of the pieces come to, piece by piece."""
    found = {0}
    for piece in purse:
        found |= {total + piece for total in found}
    return found


def without(purse, part):
    left = list(purse)
    for piece in part:
        left.remove(piece)
    return tuple(left)


def has(purse, part):
    return all(purse.count(piece) >= part.count(piece) for piece in part)


def left_behind(purse, lost):
    """All that can be left when so many pieces are lost."""
    return {tuple(piece for at, piece in enumerate(purse) if at not in gone)
            for gone in itertools.combinations(range(len(purse)), lost)}


def holds_all(purse):
    return wholes(purse) == set(range(sum(purse) + 1))


@lru_cache(maxsize=None)
def full(purse, lost):
    """Whether a purse is full, by going through all losses and all sums."""
    return len(purse) > lost and all(holds_all(left) for left in left_behind(purse, lost))


def purses_up_to(pieces, piece):
    """All purses of so many pieces that are not above a piece."""
    return itertools.combinations_with_replacement(range(1, piece + 1), pieces)


def purses_with(whole, pieces, low=1):
    """All purses with this whole and so many pieces, ascending."""
    if pieces == 1:
        return [(whole,)] if whole >= low else []
    return [(piece,) + rest for piece in range(low, whole // pieces + 1)
            for rest in purses_with(whole - piece, pieces - 1, piece)]


def some_purses(seed, number, longest=12, greatest=(3, 6, 12, 40, 1000)):
    """Purses of all lengths, with like pieces and without, the same ones each time."""
    source = random.Random(seed)
    found = [(), (1,), (1000,), (1,) * min(longest, 12)]
    while len(found) < number:
        top = source.choice(greatest)
        found.append(tuple(sorted(source.randint(1, top) for _ in range(source.randint(0, longest)))))
    return found


def deals(buyer, seller, price):
    """All deals that settle a price."""
    return [(handed, back) for handed in parts(buyer) for back in parts(seller) if sum(handed) - sum(back) == price]


def all_prices(buyer, seller):
    return {sum(handed) - sum(back) for handed in parts(buyer) for back in parts(seller)}


def purses_behind(buyer, seller, deal):
    handed, back = deal
    return (tuple(sorted(without(buyer, handed) + back)), tuple(sorted(without(seller, back) + handed)))


def tills_of(till, queue):
    """All that can be in the till behind a queue, by going through all deals of all guests, one after the other."""
    if not queue:
        return {till}
    purse, price = queue[0]
    found = set()
    for deal in deals(purse, till, price):
        found |= tills_of(purses_behind(purse, till, deal)[1], queue[1:])
    return found


@lru_cache(maxsize=None)
def partings(purse, hands):
    """All partings, by giving piece by piece to each hand."""
    found = set()
    for given in itertools.product(range(hands), repeat=len(purse)):
        purses = [[] for _ in range(hands)]
        for piece, hand in zip(purse, given):
            purses[hand].append(piece)
        found.add(tuple(sorted(map(tuple, purses))))
    return sorted(found)
