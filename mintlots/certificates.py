"""Claims with papers that the checker accepts."""

from mintlots.backs import least_deal, least_moved
from mintlots.calls import check_amounts, check_told, first_missed, kept_lots, without_coin
from mintlots.checker import is_told_so, ways_rows
from mintlots.checks import MOST_STEP, check_small
from mintlots.lengths import FEWEST, MOST, gains, lag, length_of, length_table, losses, payment_of_length
from mintlots.lots import (
    Lot, check_lot, divisor, is_paid, is_reached, last_missed, lean_coins, least_by_rest, least_sums,
)
from mintlots.naming import good_of, is_quiet, left_missed, stand_sums
from mintlots.payments import first_payment
from mintlots.pots import deal_for, ways_to_settle
from mintlots.purses import gap, is_full
from mintlots.views import check_view, fitting, known_sums, told_sums


def least_coin_table(lot):
    """The least coin and the least sums of its rests."""
    return lot.coins[0], least_sums(lot, lot.coins[0])


def certify_paid(lot, amount):
    """That a sum is paid, or missed."""
    if is_paid(lot, amount):
        return ("paid", str(lot), amount), first_payment(lot, amount)
    return ("missed", str(lot), amount), least_coin_table(lot)


def certify_last(lot):
    """That a sum is the greatest missed one, None if there is none."""
    if divisor(lot) > 1 or last_missed(lot) is None:
        return None
    coin, table = least_coin_table(lot)
    paid = tuple([first_payment(lot, amount) for amount in table])
    return ("last", str(lot), last_missed(lot)), (coin, table, paid)


def certify_ways(lot, small):
    """In how many ways a sum is paid."""
    check_lot(lot)
    check_small(small)
    rows = ways_rows(lot.coins, small)
    return ("ways", str(lot), small, rows[-1][small]), rows


def length_paper(lot, amount, sign):
    """The paper for the least or greatest length of a sum that is paid and not too great to be reached step by step."""
    return payment_of_length(lot, amount, sign), tuple(length_table(lot.coins, amount, sign))


def great_paper(lot, amount, sign):
    """The paper for the least or greatest length of a great sum."""
    bounds = losses(lot) if sign == FEWEST else gains(lot)
    # A rest that no payment has must have a number, too; 0 serves.
    return payment_of_length(lot, amount, sign), tuple([0 if bound is None else bound for bound in bounds])


def certified_length(lot, amount, sign, word):
    """The least or greatest length of a sum, None if it is missed."""
    number = length_of(lot, amount, sign)
    if number is None:
        return None
    if amount <= MOST_STEP:
        return (word, str(lot), amount, number), length_paper(lot, amount, sign)
    return ("great " + word, str(lot), amount, number), great_paper(lot, amount, sign)


def certify_least(lot, amount):
    """The least length of a sum, None if it is missed."""
    return certified_length(lot, amount, FEWEST, "least")


def certify_most(lot, amount):
    """The greatest length of a sum, None if it is missed."""
    return certified_length(lot, amount, MOST, "most")


def certify_lag(one, other):
    """That one lot is so far behind another one at the sum of the lag, None if there is none or the sum is great."""
    found = lag(one, other)
    if found is None or found[1] > MOST_STEP:
        return None
    number, amount = found
    claim = ("behind", str(one), str(other), amount, number)
    return claim, (length_paper(one, amount, FEWEST), length_paper(other, amount, FEWEST))


def certify_moved(lot, price):
    """That a price is settled by as few coins as can be, None if it can't be settled."""
    number = least_moved(lot, price)
    return None if number is None else (("settled", str(lot), price, number), least_deal(lot, price))


def certify_full(purse, lost):
    """That a purse is full against a number, or is not; None if it has no more pieces than that."""
    if is_full(purse, lost):
        return ("full", purse, lost), ()
    return None if len(purse) <= lost else (("not full", purse, lost), gap(purse, lost))


def certify_price(buyer, seller, price):
    """That a price is settled by two purses, or is not."""
    if ways_to_settle(buyer, seller, price) == 0:
        return ("no price", buyer, seller, price), ()
    return ("price", buyer, seller, price), deal_for(buyer, seller, price)


def first_lost(sums, known):
    """The sums that are missed behind the least good name of a stand that is won and misses these sums."""
    return left_missed(sums, good_of(sums, known)[0])


def lost_behind(sums, known):
    """Lost stands, told by the sums they miss, from a lost one on; behind each further name one of them is reached."""
    found = {sums: True}
    ahead = [sums]
    while ahead:
        stand = ahead.pop()
        for name in stand[1:]:
            then = first_lost(left_missed(stand, name), known)
            if then not in found:
                found[then] = True
                ahead.append(then)
    return list(found)


def stand_coins(sums):
    """The coins of the lean lot that misses just these sums."""
    # No lean coin is above the least coin and the greatest missed sum together; the least one is at most 1 above that.
    return lean_coins(tuple([amount for amount in range(1, 2 * sums[-1] + 2) if amount not in sums]))


def certify_stand(stand):
    """That a stand is lost, or won."""
    sums = stand_sums(stand)
    known = {}
    if not sums:
        return ("won", str(stand)), ()
    word = "won" if good_of(sums, known) else "lost"
    lost = lost_behind(first_lost(sums, known) if word == "won" else sums, known)
    return (word, str(stand)), tuple(sorted([stand_coins(left) for left in lost]))


def certify_quiet(stand):
    """That a stand is quiet, None if it is not."""
    return (("quiet", str(stand)), ()) if is_quiet(stand) else None


def certify_fit(view, lot):
    """That a lot fits a view, None if it does not."""
    check_view(view)
    check_lot(lot)
    return (("fits", view.tellings, str(lot)), ()) if lot.coins in fitting(view) else None


def payment_by(coins, amount):
    """The lean coins of some that pay a sum, and a payment of it by them."""
    lot = Lot(lean_coins(coins))
    return lot.coins, first_payment(lot, amount)


def first_betrayed(view, coins):
    """The first sum told to be missed that the coins pay, None if they pay none."""
    table = least_by_rest(coins, coins[0])
    paid = [amount for amount in told_sums(view, "missed") if is_reached(table, amount)]
    return paid[0] if paid else None


def certify_sure(view, small):
    """What is sure of a sum by a view that tells of paid and missed sums alone, None if it is not sure so."""
    check_view(view)
    check_small(small)
    if small == 0 or not is_told_so(view):
        return None
    known = known_sums(view)
    if first_missed(known, (small,)) is None:
        return ("sure", view.tellings, small, "paid"), payment_by(known, small)
    coins = tuple(sorted(known + (small,)))
    amount = first_betrayed(view, coins)
    return None if amount is None else (("sure", view.tellings, small, "missed"), payment_by(coins, amount))


def needed_part(left, amounts):
    """A sum that coins miss, one of these coins, and the least sums of its rests."""
    return first_missed(left, amounts), left[0], least_by_rest(left, left[0])


def certify_kept(lot, amounts, some):
    """That some coins of a lot are a kept lot, None if they are not."""
    check_lot(lot)
    check_amounts(amounts)
    check_lot(some)
    check_told(lot, amounts)
    coins = some.coins
    if coins not in kept_lots(lot, amounts):
        return None
    claim = ("kept", str(lot), amounts, str(some))
    if len(coins) == 1:
        return claim, ((),)
    return claim, tuple([needed_part(without_coin(coins, coin), amounts) for coin in coins])
