"""Queues of guests, and the tills that can serve them."""

from mintlots.checks import check_purse, is_between, is_purse
from mintlots.errors import InvalidQueue, TooMany
from mintlots.limits import MOST_GUESTS, MOST_PIECE, MOST_PIECES
from mintlots.pots import left_without


def is_guest(value):
    """Whether it is a guest: a pair of a purse and a price."""
    if not isinstance(value, tuple) or len(value) != 2:
        return False
    purse, price = value
    return is_purse(purse) and is_between(price, 0, MOST_PIECES * MOST_PIECE)


def check_queue(till, queue):
    """The errors of a till and a queue."""
    check_purse(till)
    if not isinstance(queue, tuple):
        raise InvalidQueue(None)
    for at, guest in enumerate(queue):
        if at == MOST_GUESTS or not is_guest(guest):
            raise InvalidQueue(at)
    number = len(till) + sum([len(purse) for purse, _ in queue])
    if number > MOST_PIECES:
        raise TooMany(number)


def parts_by_sum(purse):
    """For each sum that a purse holds the list of all purses of some of its pieces that come to it."""
    parts = [()]
    for piece in purse:
        parts = parts + [part + (piece,) for part in parts]
    found = {}
    for part in sorted(set(parts)):
        found.setdefault(sum(part), []).append(part)
    return found


def serve(till, guest):
    """All tills that can be left behind a guest, each with a deal that leads to it."""
    purse, price = guest
    parts = parts_by_sum(till)
    found = {}
    for total, handed_parts in parts_by_sum(purse).items():
        for handed in handed_parts:
            for back in parts.get(total - price, []):
                left = left_without(till, back)
                found[tuple(sorted(left + list(handed)))] = (handed, back)
    return found


def tills_behind(tills_ahead, guest, known):
    """All tills that can be left behind a guest by these ones, each with the till ahead and a deal that lead to it.

    What `serve` has told is kept in `known`, as the same till meets the same guest in many orders.
    """
    found = {}
    for till in tills_ahead:
        if (till, guest) not in known:
            known[(till, guest)] = serve(till, guest)
        for then, deal in known[(till, guest)].items():
            found[then] = (till, deal)
    return found


def served(till, queue):
    """For no guests, the first one, the first two and so on what `tills_behind` tells, up to the first empty one."""
    stages = [{till: None}]
    known = {}
    for guest in queue:
        if stages[-1]:
            stages.append(tills_behind(sorted(stages[-1]), guest, known))
    return stages


def passes(till, queue):
    """Whether all guests can be served in the order of the queue."""
    return stuck(till, queue) is None


def plan(till, queue):
    """Deals, one for each guest, by which all are served, None if they can't be."""
    check_queue(till, queue)
    stages = served(till, queue)
    if not stages[-1]:
        return None
    then = min(list(stages[-1]))
    deals = []
    for stage in reversed(stages[1:]):
        then, deal = stage[then]
        deals.append(deal)
    return tuple(reversed(deals))


def tills(till, queue):
    """The ascending tuple of all that can be in the till behind the queue."""
    check_queue(till, queue)
    return tuple(sorted(served(till, queue)[-1]))


def orders_from(tills_ahead, left, queue, known):
    """The list of the orders in which the guests with these indexes can be served by one of these tills."""
    if not left:
        return [()]
    found = []
    for at in left:
        then = sorted(tills_behind(tills_ahead, queue[at], known))
        if then:
            others = [other for other in left if other != at]
            found.extend([(at,) + order for order in orders_from(then, others, queue, known)])
    return found


def orders(till, queue):
    """The ascending tuple of the orders, tuples of all indexes, in which the guests can be served."""
    check_queue(till, queue)
    return tuple(orders_from([till], list(range(len(queue))), queue, {}))


def stuck(till, queue):
    """The index of the first guest who can't be served, however those ahead were, None if there is none."""
    check_queue(till, queue)
    stages = served(till, queue)
    return None if stages[-1] else len(stages) - 2
