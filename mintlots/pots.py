"""A buyer's and a seller's purse: which prices they settle, and how."""

from mintlots.checks import check_lost, check_price, check_purse, is_purse
from mintlots.errors import InvalidDeal, NotSettled, TooMany
from mintlots.limits import MOST_PIECES
from mintlots.purses import held, is_full, ways_by_sum


def check_both(buyer, seller):
    """InvalidPurse for what is no purse."""
    check_purse(buyer)
    check_purse(seller)


def check_together(buyer, seller):
    """TooMany for purses with too many pieces together."""
    number = len(buyer) + len(seller)
    if number > MOST_PIECES:
        raise TooMany(number)


def pot(buyer, seller):
    """The purse of all pieces of both."""
    check_both(buyer, seller)
    check_together(buyer, seller)
    return tuple(sorted(buyer + seller))


def prices(buyer, seller):
    """The ascending tuple of all prices that they settle."""
    return tuple([total - sum(seller) for total in held(pot(buyer, seller))])


def ways_to_settle(buyer, seller, price):
    """How many deals settle a price."""
    check_both(buyer, seller)
    check_price(price)
    check_together(buyer, seller)
    back = ways_by_sum(seller)
    return sum([number * back.get(total - price, 0) for total, number in ways_by_sum(buyer).items()])


def settles_all(buyer, seller, lost):
    """Whether they settle all prices between the wholes that are left, whichever so many pieces are lost."""
    check_both(buyer, seller)
    check_lost(lost)
    return is_full(pot(buyer, seller), lost)


def reach(buyer, seller):
    """The greatest number up to which they settle all prices from 0 on."""
    found = 0
    for price in prices(buyer, seller):
        if price == found + 1:
            found = price
    return found


def fewest_parts(purse):
    """For each sum that a purse holds as few of its pieces as can be that come to it."""
    found = {0: ()}
    for piece in purse:
        for total, part in list(found.items()):
            then = total + piece
            if then not in found or len(part) + 1 < len(found[then]):
                found[then] = part + (piece,)
    return found


def deal_for(buyer, seller, price):
    """A deal with the fewest pieces of both sides that settles a price."""
    check_both(buyer, seller)
    check_price(price)
    check_together(buyer, seller)
    back = fewest_parts(seller)
    deals = [(part, back[total - price]) for total, part in fewest_parts(buyer).items() if total - price in back]
    if not deals:
        raise NotSettled(price)
    return min(deals, key=lambda deal: len(deal[0]) + len(deal[1]))


def left_without(purse, part):
    """The list of what is left of a purse without a part of it, None if it does not have the part."""
    left = list(purse)
    for piece in part:
        if piece not in left:
            return None
        left.remove(piece)
    return left


def is_pair_of_purses(value):
    """Whether it is a pair of purses."""
    return isinstance(value, tuple) and len(value) == 2 and all([is_purse(part) for part in value])


def behind(buyer, seller, deal):
    """The pair of the purses behind a deal."""
    check_both(buyer, seller)
    if not is_pair_of_purses(deal):
        raise InvalidDeal(None)
    handed, back = deal
    bought = left_without(buyer, handed)
    if bought is None:
        raise InvalidDeal(0)
    sold = left_without(seller, back)
    if sold is None:
        raise InvalidDeal(1)
    check_together(buyer, seller)
    return tuple(sorted(bought + list(back))), tuple(sorted(sold + list(handed)))
