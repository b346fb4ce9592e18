"""A small checker: whether a paper shows what a claim says, whoever wrote it."""

from mintlots.calls import check_amounts, first_missed, without_coin
from mintlots.checks import (
    MOST_STEP, count_ascending, is_between, is_integer, is_number, is_payment, is_price, is_purse, is_small,
)
from mintlots.errors import InvalidAmounts, InvalidTellings, InvalidText
from mintlots.lengths import FEWEST, MOST, length_table
from mintlots.limits import MOST_AMOUNT, MOST_PIECES, MOST_SMALL
from mintlots.lots import Lot, count_right, is_reached, lean_coins, least_by_rest
from mintlots.naming import is_quiet, is_stand, left_missed, stand_sums
from mintlots.payments import put_ways, sum_paid
from mintlots.pots import is_pair_of_purses, left_without, prices
from mintlots.purses import held, is_full
from mintlots.swaps import is_pair_of_payments
from mintlots.views import View, is_plain, is_sound, known_sums, still_fitting, told_sums

# What each claim tells behind its word.
CLAIMS = {
    "paid": ("lot", "great"), "missed": ("lot", "great"), "last": ("lot", "step"), "ways": ("lot", "small", "number"),
    "least": ("lot", "step", "number"), "most": ("lot", "step", "number"),
    "great least": ("lot", "great", "number"), "great most": ("lot", "great", "number"),
    "behind": ("lot", "lot", "step", "integer"), "settled": ("lot", "price", "number"),
    "full": ("purse", "lost"), "not full": ("purse", "lost"),
    "price": ("purse", "purse", "integer"), "no price": ("purse", "purse", "integer"),
    "lost": ("lot",), "won": ("lot",), "quiet": ("lot",),
    "fits": ("view", "lot"), "sure": ("view", "small", "word"), "kept": ("lot", "sums", "lot"),
}


def is_told(kind, value):
    """Whether a value is of a kind that stands in a claim as it is."""
    if kind == "great":
        return is_between(value, 0, MOST_AMOUNT)
    if kind == "step":
        return is_between(value, 0, MOST_STEP)
    if kind == "small":
        return is_small(value)
    if kind == "number":
        return is_number(value)
    if kind == "integer":
        return is_integer(value)
    if kind == "price":
        return is_price(value)
    if kind == "purse":
        return is_purse(value)
    if kind == "lost":
        return is_between(value, 0, MOST_PIECES - 1)
    return isinstance(value, str) and value in ("paid", "missed")


def read_lot(value):
    """The lot with this text, None for anything else."""
    try:
        return Lot.read(value)
    except InvalidText:
        return None


def read_view(value):
    """The view with these tellings, None for anything else."""
    try:
        return View(value)
    except InvalidTellings:
        return None


def read_sums(value):
    """Ascending small sums as they are, None for anything else."""
    try:
        check_amounts(value)
    except InvalidAmounts:
        return None
    return value


# How the kinds are read that do not stand in a claim as they are, or only if all their parts go together.
READ = {"lot": read_lot, "view": read_view, "sums": read_sums}


def read_part(kind, value):
    """What a part of a claim tells, None if it is not of its kind."""
    if kind in READ:
        reader = READ[kind]
        return reader(value)
    return value if is_told(kind, value) else None


def read_claim(claim):
    """The list of what the parts of a claim tell behind its word, None for what is no claim."""
    if not isinstance(claim, tuple) or len(claim) == 0 or not isinstance(claim[0], str):
        return None
    kinds = CLAIMS.get(claim[0])
    if kinds is None or len(claim) != len(kinds) + 1:
        return None
    parts = [read_part(kind, value) for kind, value in zip(kinds, claim[1:])]
    return None if any([part is None for part in parts]) else parts


def is_tuple_of(value, number):
    """Whether it is a tuple of so many elements."""
    return isinstance(value, tuple) and len(value) == number


def is_row(value, row):
    """Whether it is the tuple of these integers and None."""
    # True and False would be equal to integers, and other values may be equal to anything.
    return is_tuple_of(value, len(row)) and all(
        [part is None if known is None else is_integer(part) and part == known for part, known in zip(value, row)])


def is_table(coin, table, coins):
    """Whether it is one of the coins, and the table that of the least sums of its rests."""
    return is_integer(coin) and coin in coins and is_row(table, least_by_rest(coins, coin))


def is_payment_of(lot, value, amount):
    """Whether it is a payment of a sum by a lot."""
    return is_payment(value, len(lot.coins)) and sum_paid(lot, value) == amount


def ways_rows(coins, most):
    """For the first coin, the first two and so on the tuples of how many payments 0, 1, .. up to `most` have."""
    ways = [1] + [0] * most
    rows = []
    for coin in coins:
        put_ways(ways, coin)
        rows.append(tuple(ways))
    return tuple(rows)


def shows_paid(paper, lot, amount):
    """For "paid": a payment."""
    return is_payment_of(lot, paper, amount)


def shows_missed(paper, lot, amount):
    """For "missed": a coin and the least sums of its rests."""
    return is_tuple_of(paper, 2) and is_table(paper[0], paper[1], lot.coins) and not is_reached(paper[1], amount)


def shows_last(paper, lot, last):
    """For "last": a coin, the least sums of its rests, and payments of them."""
    if not is_tuple_of(paper, 3):
        return False
    coin, table, payments = paper
    if not is_table(coin, table, lot.coins) or None in table or max(table) - coin != last:
        return False
    return is_tuple_of(payments, coin) and all(
        [is_payment_of(lot, payment, least) for payment, least in zip(payments, table)])


def shows_ways(paper, lot, amount, number):
    """For "ways": how many payments all sums have by the first coins."""
    rows = ways_rows(lot.coins, amount)
    if not is_tuple_of(paper, len(rows)) or not all([is_row(part, row) for part, row in zip(paper, rows)]):
        return False
    return rows[-1][amount] == number


def length_shown(paper, lot, amount, sign):
    """The length that such a paper shows to be the least or greatest one of a sum, None if it shows none."""
    if not is_tuple_of(paper, 2) or not is_payment_of(lot, paper[0], amount):
        return None
    row = length_table(lot.coins, amount, sign)
    return row[amount] if sum(paper[0]) == row[amount] and is_row(paper[1], row) else None


def shows_least(paper, lot, amount, number):
    """For "least": a payment and the least lengths of all sums."""
    return length_shown(paper, lot, amount, FEWEST) == number


def shows_most(paper, lot, amount, number):
    """For "most": a payment and the greatest lengths of all sums."""
    return length_shown(paper, lot, amount, MOST) == number


def is_bound(table, coins, frequent):
    """Whether no payment differs less, from as many coins `frequent`, than the table tells for its rest."""
    if not is_tuple_of(table, frequent) or not all([is_integer(bound) for bound in table]) or table[0] != 0:
        return False
    return all([table[(rest + coin) % frequent] <= bound + abs(coin - frequent)
                for rest, bound in enumerate(table) for coin in coins])


def is_great_paper(paper, lot, amount, number, frequent):
    """Whether it is a payment of the sum with this length, and a table of bounds."""
    if not is_tuple_of(paper, 2) or not is_payment_of(lot, paper[0], amount):
        return False
    return sum(paper[0]) == number and is_bound(paper[1], lot.coins, frequent)


def shows_great_least(paper, lot, amount, number):
    """For "great least": a payment and bounds for the losses."""
    high = lot.coins[-1]
    if not is_great_paper(paper, lot, amount, number, high):
        return False
    return high * (number - 1) < amount + paper[1][amount % high]


def shows_great_most(paper, lot, amount, number):
    """For "great most": a payment and bounds for the gains."""
    low = lot.coins[0]
    if not is_great_paper(paper, lot, amount, number, low):
        return False
    return low * (number + 1) > amount - paper[1][amount % low]


def shows_behind(paper, one, other, amount, number):
    """For "behind": the papers for the least length by both lots."""
    if not is_tuple_of(paper, 2):
        return False
    here = length_shown(paper[0], one, amount, FEWEST)
    there = length_shown(paper[1], other, amount, FEWEST)
    return here is not None and there is not None and here - there == number


def shows_settled(paper, lot, price, number):
    """For "settled": a deal by the lot."""
    if not is_pair_of_payments(paper, len(lot.coins)):
        return False
    handed, back = paper
    return sum_paid(lot, handed) - sum_paid(lot, back) == price and sum(handed) + sum(back) == number


def shows_full(paper, purse, lost):
    """For "full": nothing."""
    return is_tuple_of(paper, 0) and is_full(purse, lost)


def shows_not_full(paper, purse, lost):
    """For "not full": the pieces that are lost, and a sum that is not held then."""
    if not is_tuple_of(paper, 2) or not is_purse(paper[0]) or len(paper[0]) != lost:
        return False
    left = left_without(purse, paper[0])
    # If no piece is left the only sum that may be told is held.
    return left is not None and is_between(paper[1], 0, sum(left)) and paper[1] not in held(tuple(left))


def are_together(buyer, seller):
    """Whether both purses have few enough pieces together."""
    return len(buyer) + len(seller) <= MOST_PIECES


def shows_price(paper, buyer, seller, price):
    """For "price": a deal."""
    if not are_together(buyer, seller) or not is_pair_of_purses(paper):
        return False
    handed, back = paper
    if left_without(buyer, handed) is None or left_without(seller, back) is None:
        return False
    return sum(handed) - sum(back) == price


def shows_no_price(paper, buyer, seller, price):
    """For "no price": nothing."""
    return are_together(buyer, seller) and is_tuple_of(paper, 0) and price not in prices(buyer, seller)


def are_lean_stands(paper):
    """Whether it is an ascending tuple of the coins of lean stands without the coin 1."""
    if not isinstance(paper, tuple):
        return False
    ahead = ()
    for coins in paper:
        if not isinstance(coins, tuple) or len(coins) == 0 or count_right(coins) < len(coins) or coins <= ahead:
            return False
        if coins[0] == 1 or lean_coins(coins) != coins or not is_stand(Lot(coins)):
            return False
        ahead = coins
    return True


def leads_to(sums, stands):
    """Whether some name leads from the stand that misses these sums to one of some stands."""
    return any([left_missed(sums, name) in stands for name in sums])


def lost_stands(paper):
    """The sums that the stands of a paper miss, as a dict, if all of them are shown to be lost; else None."""
    if not are_lean_stands(paper):
        return None
    stands = {stand_sums(Lot(coins)): True for coins in paper}
    for sums in stands:
        # The name 1, the least one, has lost.
        if not all([leads_to(left_missed(sums, name), stands) for name in sums[1:]]):
            return None
    return stands


def shows_lost(paper, lot):
    """For "lost": lost stands, this one among them."""
    stands = lost_stands(paper)
    return stands is not None and is_stand(lot) and stand_sums(lot) in stands


def shows_won(paper, lot):
    """For "won": lost stands, and a name leads to one of them if there are names."""
    stands = lost_stands(paper)
    if stands is None or not is_stand(lot):
        return False
    return lot.coins[0] == 1 or leads_to(stand_sums(lot), stands)


def shows_quiet(paper, lot):
    """For "quiet": nothing."""
    return is_tuple_of(paper, 0) and is_stand(lot) and is_quiet(lot)


def shows_fits(paper, view, lot):
    """For "fits": nothing."""
    return is_tuple_of(paper, 0) and is_sound(lot) and len(still_fitting(view, (lot.coins,))) == 1


def is_told_so(view):
    """Whether the view tells of paid and missed sums alone, and some lot fits."""
    known = known_sums(view)
    table = least_by_rest(known, known[0])
    return is_plain(view) and not any([is_reached(table, amount) for amount in told_sums(view, "missed")])


def shows_sure(paper, view, amount, word):
    """For "sure": a payment by known sums, or one that would pay what is told to be missed."""
    if amount == 0 or not is_told_so(view) or not is_tuple_of(paper, 2):
        return False
    coins, payment = paper
    if not isinstance(coins, tuple) or count_ascending(coins, 1, MOST_SMALL, len(coins)) < len(coins):
        return False
    if not is_payment(payment, len(coins)):
        return False
    total = sum([coin * many for coin, many in zip(coins, payment)])
    if word == "paid":
        return total == amount and all([coin in known_sums(view) for coin in coins])
    known = known_sums(view) + (amount,)
    return amount in coins and total in told_sums(view, "missed") and all([coin in known for coin in coins])


def is_needed(part, left, sums):
    """Whether it shows that the coins that are left without one of them miss one of the sums."""
    if not is_tuple_of(part, 3):
        return False
    amount, coin, table = part
    return is_integer(amount) and amount in sums and is_table(coin, table, left) and not is_reached(table, amount)


def shows_kept(paper, lot, sums, some):
    """For "kept": for each coin a sum that is missed without it."""
    coins = some.coins
    if not all([coin in lot.coins for coin in coins]) or first_missed(coins, sums) is not None:
        return False
    if not is_tuple_of(paper, len(coins)):
        return False
    if len(coins) == 1:
        return is_tuple_of(paper[0], 0)
    return all([is_needed(part, without_coin(coins, coin), sums) for part, coin in zip(paper, coins)])


CHECKS = {
    "paid": shows_paid, "missed": shows_missed, "last": shows_last, "ways": shows_ways, "least": shows_least,
    "most": shows_most, "great least": shows_great_least, "great most": shows_great_most, "behind": shows_behind,
    "settled": shows_settled, "full": shows_full, "not full": shows_not_full, "price": shows_price,
    "no price": shows_no_price, "lost": shows_lost, "won": shows_won, "quiet": shows_quiet, "fits": shows_fits,
    "sure": shows_sure, "kept": shows_kept,
}


def accepts(claim, paper):
    """Whether it is a claim for the checker, and a paper for it."""
    parts = read_claim(claim)
    if parts is None:
        return False
    check = CHECKS[claim[0]]
    return check(paper, *parts)
