"""Views: what is told about a hidden lot, and what is sure of it then."""

from mintlots.checks import check_small, is_between, is_number
from mintlots.errors import InvalidTellings, NoFit, NotAView
from mintlots.lengths import FEWEST, MOST, length_table
from mintlots.limits import MOST_TOLD, SOUND_FROM
from mintlots.lots import check_lot, is_reached, lean_coins, least_by_rest
from mintlots.payments import count_ways

# How many values a telling of each kind has.
TELLINGS = {"paid": 2, "missed": 2, "ways": 3, "least": 3, "most": 3}

# The greatest sum that can be told of; the document does not name it among the limits.
MOST_TOLD_SUM = 40


class View:
    """Up to twelve tellings about a hidden sound lot."""

    def __init__(self, tellings):
        if not isinstance(tellings, tuple):
            raise InvalidTellings(None)
        for at, telling in enumerate(tellings):
            if at == MOST_TOLD or not is_telling(telling):
                raise InvalidTellings(at)
        self._tellings = tellings

    @property
    def tellings(self):
        """The tuple of the tellings."""
        return self._tellings

    def more(self, telling):
        """The view with one telling more behind the others."""
        return View(self._tellings + (telling,))

    def __eq__(self, other):
        return isinstance(other, View) and self._tellings == other._tellings


def is_telling(value):
    """Whether it is a telling."""
    if not isinstance(value, tuple) or len(value) < 2 or not isinstance(value[0], str):
        return False
    if TELLINGS.get(value[0]) != len(value):
        return False
    return is_between(value[1], 1, MOST_TOLD_SUM) and all([is_number(number) for number in value[2:]])


def check_view(view):
    """NotAView for what is no view."""
    if not isinstance(view, View):
        raise NotAView(view)


def goes_with(amount, greater):
    """Whether a sum and greater ones below the bound of sound lots can be just what is paid from the sum on."""
    totals = [amount + other for other in (amount,) + greater]
    return all([total >= SOUND_FROM or total in greater for total in totals])


def sound_coins(paid):
    """The coins of the sound lot that pays just these sums below the bound."""
    # From the bound on all sums are paid; those from twice the bound on are no coins, as the bound less 0 pays them.
    return lean_coins(paid + tuple(range(SOUND_FROM, 2 * SOUND_FROM)))


def sound_lots():
    """The ascending tuple of the coins of all sound lots."""
    sets = [()]
    for amount in range(SOUND_FROM - 1, 0, -1):
        sets = sets + [(amount,) + greater for greater in sets if goes_with(amount, greater)]
    return tuple(sorted([sound_coins(paid) for paid in sets]))


def is_sound(lot):
    """Whether a lot is lean and pays all sums from the bound on."""
    check_lot(lot)
    table = least_by_rest(lot.coins, lot.coins[0])
    # Some coin is not above the bound if that is paid; then it is enough to look at as many sums as the bound tells.
    return lean_coins(lot.coins) == lot.coins and all(
        [is_reached(table, amount) for amount in range(SOUND_FROM, 2 * SOUND_FROM)])


def is_true_of(telling, coins):
    """Whether what is told holds for the lot with these coins."""
    word = telling[0]
    amount = telling[1]
    if word == "ways":
        return count_ways(coins, amount)[amount] == telling[2]
    if word == "least":
        return length_table(coins, amount, FEWEST)[amount] == telling[2]
    if word == "most":
        return length_table(coins, amount, MOST)[amount] == telling[2]
    return is_reached(least_by_rest(coins, coins[0]), amount) == (word == "paid")


def still_fitting(view, lots):
    """Those of the lots, told by their coins, for which all holds that a view tells."""
    left = lots
    for telling in view.tellings:
        left = tuple([coins for coins in left if is_true_of(telling, coins)])
    return left


def fitting(view):
    """The ascending tuple of the coins of all lots that fit."""
    check_view(view)
    return still_fitting(view, sound_lots())


def some_fitting(view):
    """The same for a view that some lot fits; NoFit for any other one."""
    lots = fitting(view)
    if not lots:
        raise NoFit()
    return lots


def can_be(view):
    """Whether some lot fits."""
    return len(fitting(view)) > 0


def count_paying(lots, amount):
    """How many of the lots, told by their coins, pay a sum."""
    return len([coins for coins in lots if is_reached(least_by_rest(coins, coins[0]), amount)])


def sure(view, small):
    """What is sure of a sum by all lots that fit: "paid", "missed" or "open"."""
    check_view(view)
    check_small(small)
    lots = some_fitting(view)
    paying = count_paying(lots, small)
    if paying == len(lots):
        return "paid"
    return "open" if paying > 0 else "missed"


def next_sum(view):
    """The sum to ask for that leaves as few fitting lots as can be, whatever is told of it; None if one is left."""
    lots = some_fitting(view)
    if len(lots) == 1:
        return None
    paying = [count_paying(lots, amount) for amount in range(SOUND_FROM)]
    return min(list(range(1, SOUND_FROM)), key=lambda amount: max(paying[amount], len(lots) - paying[amount]))


def told_sums(view, word):
    """The sums of which the view tells this word."""
    return [telling[1] for telling in view.tellings if telling[0] == word]


def known_sums(view):
    """The ascending tuple of the sums that are told to be paid, and of those from the bound on that can be coins."""
    return tuple(sorted(set(told_sums(view, "paid") + list(range(SOUND_FROM, 2 * SOUND_FROM)))))


def is_plain(view):
    """Whether just sums that are paid and missed are told."""
    return all([telling[0] in ("paid", "missed") for telling in view.tellings])
