"""Two hands name coins by turns until all is paid; who names 1 has lost."""

from mintlots.checks import is_number
from mintlots.errors import InvalidNames, NotAStand
from mintlots.limits import MOST_MISSED
from mintlots.lots import (
    Lot, check_lot, count_missed, divisor, is_reached, lean_coins, least_by_rest, missed, put_step,
)


def is_stand(lot):
    """Whether a lot is a stand."""
    return divisor(lot) == 1 and count_missed(lot) <= MOST_MISSED


def stand_sums(stand):
    """The sums that a stand misses, with the errors of what is none; they tell all that matters for the game."""
    sums = missed(stand)
    if len(sums) > MOST_MISSED:
        raise NotAStand(len(sums))
    return sums


def left_missed(sums, name):
    """Those of the missed sums that are still missed when one of them is named."""
    left = []
    # They ascend; so it is known already whether a sum less the name, which would pay it, is missed then.
    for total in sums:
        if total < name or total - name in left:
            left.append(total)
    return tuple(left)


def outcome(sums, known):
    """Whether who is to move wins, and the end, of the stand that misses these sums; kept in `known`."""
    if not sums:
        return True, 0
    if sums not in known:
        behind = [outcome(left_missed(sums, name), known) for name in sums]
        lost = [length for won, length in behind if not won]
        known[sums] = (True, 1 + min(lost)) if lost else (False, 1 + max([length for _, length in behind]))
    return known[sums]


def good_of(sums, known):
    """The ascending list of the good names."""
    return [name for name in sums if not outcome(left_missed(sums, name), known)[0]]


def is_won(stand):
    """Whether who is to move wins."""
    return outcome(stand_sums(stand), {})[0]


def good_names(stand):
    """The ascending tuple of the names that lead to a lost stand."""
    return tuple(good_of(stand_sums(stand), {}))


def end(stand):
    """How many names are made if who wins ends the game as soon, and who loses as late as can be."""
    return outcome(stand_sums(stand), {})[1]


def is_quiet(stand):
    """Whether the greatest missed sum is paid whichever lesser one is named."""
    sums = stand_sums(stand)
    if not sums or sums[-1] == 1:
        return False
    return all([sums[-1] not in left_missed(sums, name) for name in sums[:-1]])


def named(stand, names):
    """The lean lot behind some names, one after the other."""
    check_lot(stand)
    if not isinstance(names, tuple):
        raise InvalidNames(None)
    table = list(least_by_rest(stand.coins, stand.coins[0]))
    for at, name in enumerate(names):
        # What is paid is 0 or needs no naming.
        if not is_number(name) or is_reached(table, name):
            raise InvalidNames(at)
        put_step(table, name, name)
    # What is no stand is told behind wrong names only.
    stand_sums(stand)
    return Lot(lean_coins(tuple(sorted(stand.coins + names))))


def is_kept_to(sums, name, known):
    """Whether a name leads from one hand's stand to the other's as the end tells."""
    won, length = outcome(sums, known)
    then_won, then_length = outcome(left_missed(sums, name), known)
    return then_won != won and then_length == length - 1


def game(stand):
    """The tuple of the names made until 1 is named, each time the least one that keeps to the end."""
    sums = stand_sums(stand)
    known = {}
    names = []
    while sums:
        kept = [name for name in sums if is_kept_to(sums, name, known)]
        names.append(kept[0])
        sums = left_missed(sums, kept[0])
    return tuple(names)
