"""Swaps: the least changes that lead from a payment to other payments of the same sum."""

from mintlots.checks import MOST_STEP, check_payment, is_payment
from mintlots.errors import InvalidDeal, InvalidPayment, TooMany
from mintlots.limits import MOST_SWAPPED
from mintlots.lots import check_lot
from mintlots.payments import sum_paid

MOST_KINDS = 4


def check_swappable(lot):
    """TooMany for a lot with too many coins, or with too great ones, to list all its swaps."""
    if len(lot.coins) > MOST_KINDS:
        raise TooMany(len(lot.coins))
    if lot.coins[-1] > MOST_SWAPPED:
        raise TooMany(lot.coins[-1])


def short_payments(lot):
    """All payments with at least one coin and at most as many as the greatest coin tells."""
    most = lot.coins[-1]
    found = [()]
    for _ in lot.coins:
        found = [payment + (many,) for payment in found for many in range(most - sum(payment) + 1)]
    # The first one has no coin.
    return found[1:]


def part_sums(lot, payment):
    """The sums of all parts of a payment, as bits."""
    bits = 1
    for coin, many in zip(lot.coins, payment):
        for _ in range(many):
            bits = bits | bits << coin
    return bits


def grouped(lot):
    """For each sum its short payments, each with the sums of its parts."""
    groups = {}
    for payment in short_payments(lot):
        groups.setdefault(sum_paid(lot, payment), []).append((payment, part_sums(lot, payment)))
    return groups


def is_least_pair(taken, taken_sums, put, put_sums, total):
    """Whether two payments of a sum, with the sums of their parts, are a swap."""
    # A coin in both, or a lesser pair within, gives parts of both another sum, unless both are one and the same coin.
    return (taken_sums & put_sums) == (1 | 1 << total) and taken != put


def all_swaps(lot):
    """The ascending tuple of all swaps, for a lot that is not too great."""
    found = []
    for total, group in grouped(lot).items():
        for taken, taken_sums in group:
            for put, put_sums in group:
                if is_least_pair(taken, taken_sums, put, put_sums, total):
                    found.append((taken, put))
    return tuple(sorted(found))


def swaps(lot):
    """The ascending tuple of all swaps of the lot."""
    check_lot(lot)
    check_swappable(lot)
    return all_swaps(lot)


def is_in(part, payment):
    """Whether a payment has all coins of a part."""
    return all([few <= many for few, many in zip(part, payment)])


def swap_at(lot, payment):
    """The ascending tuple of the swaps that can be done at a payment."""
    check_lot(lot)
    check_payment(payment, len(lot.coins))
    check_swappable(lot)
    return tuple([swap for swap in all_swaps(lot) if is_in(swap[0], payment)])


def greatest_in(lot, payment):
    """The greatest coin that a payment has, 0 if it has none."""
    return max([0] + [coin for coin, many in zip(lot.coins, payment) if many > 0])


def is_swap(lot, taken, put):
    """Whether two payments are a swap of the lot."""
    # All swaps keep these bounds; so the parts of payments of any size need not be looked at.
    if not 1 <= sum(taken) <= greatest_in(lot, put) or not 1 <= sum(put) <= greatest_in(lot, taken):
        return False
    total = sum_paid(lot, taken)
    if total != sum_paid(lot, put):
        return False
    return is_least_pair(taken, part_sums(lot, taken), put, part_sums(lot, put), total)


def is_pair_of_payments(value, kinds):
    """Whether it is a pair of payments by a lot of so many kinds of coins."""
    return isinstance(value, tuple) and len(value) == 2 and all([is_payment(part, kinds) for part in value])


def swapped(lot, payment, swap):
    """The payment behind a swap."""
    check_lot(lot)
    check_payment(payment, len(lot.coins))
    if not is_pair_of_payments(swap, len(lot.coins)):
        raise InvalidDeal(None)
    taken, put = swap
    if not is_swap(lot, taken, put):
        raise InvalidDeal(0)
    if not is_in(taken, payment):
        raise InvalidDeal(1)
    check_swappable(lot)
    return tuple([many - less + more for many, less, more in zip(payment, taken, put)])


def times_in(part, payment):
    """How often a payment has all coins of a part that has some."""
    return min([many // few for few, many in zip(part, payment) if few > 0])


def less_times(payment, part, times):
    """What is left of a payment when a part is taken out so often."""
    return tuple([many - times * few for few, many in zip(part, payment)])


def way(lot, payment, goal):
    """Swaps that lead, one after the other, from a payment to another one of the same sum."""
    check_lot(lot)
    check_payment(payment, len(lot.coins))
    check_payment(goal, len(lot.coins))
    amount = sum_paid(lot, payment)
    if sum_paid(lot, goal) != amount:
        raise InvalidPayment(None)
    check_swappable(lot)
    if amount > MOST_STEP:
        raise TooMany(amount)
    surplus = tuple([max(0, here - there) for here, there in zip(payment, goal)])
    lacking = tuple([max(0, there - here) for here, there in zip(payment, goal)])
    done = []
    # As long as something is left a swap is within it; what is left only shrinks, so each swap is looked at once.
    for taken, put in all_swaps(lot):
        times = min(times_in(taken, surplus), times_in(put, lacking))
        done.extend([(taken, put)] * times)
        surplus = less_times(surplus, taken, times)
        lacking = less_times(lacking, put, times)
    return tuple(done)
