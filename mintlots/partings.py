"""Purses that are parted among some hands."""

from mintlots.checks import check_number, check_purse
from mintlots.errors import TooMany
from mintlots.limits import MOST_HANDS, MOST_LISTED, MOST_PARTED
from mintlots.purses import held


def check_parted(purse):
    """TooMany for a purse with too many pieces to be parted."""
    if len(purse) > MOST_PARTED:
        raise TooMany(len(purse))


def check_hands(purse, hands):
    """The errors of a purse and a number of hands."""
    check_purse(purse)
    check_number(hands, 1, MOST_HANDS)
    check_parted(purse)


def given_to(parting, at, hand):
    """The parting with another purse in the place of the one at an index."""
    return tuple(sorted(parting[:at] + (hand,) + parting[at + 1:]))


def dealt_down(partings, piece, most):
    """All partings with a piece more, put ahead in some hand, that leave no hand with more than `most`."""
    grown = set()
    for parting in partings:
        for at, hand in enumerate(parting):
            if sum(hand) + piece <= most:
                grown.add(given_to(parting, at, (piece,) + hand))
    return sorted(grown)


def all_even(purse, hands):
    """The ascending list of all even partings."""
    share, over = divmod(sum(purse), hands)
    if over > 0:
        return []
    partings = [((),) * hands]
    # The greatest pieces come first, as they leave the fewest choices.
    for piece in reversed(purse):
        partings = dealt_down(partings, piece, share)
    return partings


def even_partings(purse, hands):
    """The ascending tuple of all even partings of a purse."""
    check_hands(purse, hands)
    found = all_even(purse, hands)
    if len(found) > MOST_LISTED:
        raise TooMany(len(found))
    return tuple(found)


def count_even(purse, hands):
    """How many even partings of a purse there are."""
    check_hands(purse, hands)
    return len(all_even(purse, hands))


def least_difference(purse):
    """The least difference of the wholes of two hands."""
    check_purse(purse)
    check_parted(purse)
    whole = sum(purse)
    return whole - 2 * max([total for total in held(purse) if 2 * total <= whole])


def dealt_up(partings, piece):
    """Partings with a piece more, put behind in some hand, that keep all hands full; one for each choice of wholes."""
    grown = {}
    for parting in partings:
        for at, hand in enumerate(parting):
            if piece <= 1 + sum(hand):
                then = given_to(parting, at, hand + (piece,))
                # Which pieces can still be given hangs on the wholes alone.
                grown[tuple(sorted([sum(purse) for purse in then]))] = then
    return list(grown.values())


def any_full(purse, hands):
    """A full parting of a purse, None if there is none."""
    partings = [((),) * hands]
    for piece in purse:
        partings = dealt_up(partings, piece)
    found = [parting for parting in partings if () not in parting]
    return found[0] if found else None


def full_parting(purse, hands):
    """A parting into purses that are all full against 0, None if there is none."""
    check_hands(purse, hands)
    return any_full(purse, hands)


def most_hands(purse):
    """The greatest number of hands for which there is a full parting, 0 if there is none."""
    check_purse(purse)
    check_parted(purse)
    # Each hand must have a piece 1.
    for hands in range(purse.count(1), 0, -1):
        if any_full(purse, hands) is not None:
            return hands
    return 0
