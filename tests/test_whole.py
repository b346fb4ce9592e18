"""[2] over the whole program: each thing in several ways that must meet."""

import random
import unittest

from mintlots.backs import least_deal, least_moved, moved_losses
from mintlots.calls import called_in, calling_orders, gained_sums, kept_lots, lost_sums, strikes, struck
from mintlots.certificates import (certify_fit, certify_full, certify_kept, certify_lag, certify_last, certify_least,
                                   certify_most, certify_moved, certify_paid, certify_price, certify_stand, certify_sure,
                                   certify_ways)
from mintlots.checker import accepts
from mintlots.console import Console
from mintlots.counters import Counter
from mintlots.desks import Desk, played
from mintlots.errors import Broken, NotSettled
from mintlots.lengths import gains, lag, least, least_payment, lengths, losses, most, most_payment, stretch
from mintlots.lots import (Lot, count_missed, divisor, first_unlike, is_paid, is_within, joined, last_missed, lean,
                           least_sums, missed, pay_alike)
from mintlots.naming import end, game, good_names, is_quiet, is_won, named
from mintlots.partings import even_partings, full_parting, most_hands
from mintlots.payments import count_payments, first_payment, great_count, last_payment, nth_payment, payments, place_of
from mintlots.pots import behind, deal_for, pot, prices, reach, settles_all, ways_to_settle
from mintlots.purses import best_purse, gap, held, is_full, may_come, ways_held
from mintlots.queues import orders, passes, plan, stuck, tills
from mintlots.singles import is_single, other_payment, single_sums
from mintlots.swaps import swap_at, swapped, swaps, way
from mintlots.views import View, can_be, fitting, is_sound, next_sum, sound_lots, sure
from tests import plain, plain_purses, plain_stands
from tests.plain import TRIED_COINS, TRIED_LOTS

MOST = 10 ** 30

SWAPPABLE = [Lot(coins) for coins in ((2, 3), (5, 8), (3, 5, 7), (4, 6, 9), (6, 9, 12), (1, 5, 10), (2, 7, 11, 12), (3, 4, 6, 7))]


def length(payment):
    return sum(payment)


class LengthsTest(unittest.TestCase):
    """Lengths, swaps and papers meet."""

    def test_no_payment_is_shorter_or_longer_than_told(self):
        for lot in SWAPPABLE:
            for amount in list(range(0, 30)) + [41, 60]:
                known = payments(lot, amount)
                if not known:
                    self.assertIsNone(least(lot, amount))
                    self.assertIsNone(certify_least(lot, amount))
                    continue
                self.assertEqual(tuple(sorted({length(one) for one in known})), lengths(lot, amount))
                self.assertEqual(lengths(lot, amount)[0], least(lot, amount))
                self.assertEqual(lengths(lot, amount)[-1], most(lot, amount))
                self.assertIn(least_payment(lot, amount), known)
                self.assertIn(most_payment(lot, amount), known)
                self.assertEqual(certify_least(lot, amount)[0][3], lengths(lot, amount)[0])
                self.assertEqual(certify_most(lot, amount)[0][3], lengths(lot, amount)[-1])

    def test_swaps_lead_to_the_least_length(self):
        for lot in SWAPPABLE:
            for amount in (13, 24, 37, 40):
                for payment in payments(lot, amount):
                    shorter = [swap for swap in swap_at(lot, payment) if length(swap[1]) < length(swap[0])]
                    longer = [swap for swap in swap_at(lot, payment) if length(swap[1]) > length(swap[0])]
                    self.assertIs(not shorter, length(payment) == least(lot, amount))
                    self.assertIs(not longer, length(payment) == most(lot, amount))
                    self.assertIs(not swap_at(lot, payment), is_single(lot, payment))
                    while shorter:
                        payment = swapped(lot, payment, shorter[0])
                        shorter = [swap for swap in swap_at(lot, payment) if length(swap[1]) < length(swap[0])]
                    self.assertEqual(length(payment), least(lot, amount))
                    self.assertIs(accepts(("least", str(lot), amount, length(payment)),
                                          (payment, certify_least(lot, amount)[1][1])), True)

    def test_ways_of_swaps_join_all_payments(self):
        for lot in SWAPPABLE:
            known = payments(lot, 36)
            for payment in known:
                self.assertEqual(is_single(lot, payment), len(known) == 1)
                self.assertEqual(other_payment(lot, payment) is None, len(known) == 1)
                for goal in known:
                    then = payment
                    for swap in way(lot, payment, goal):
                        self.assertIn(swap, swaps(lot))
                        then = swapped(lot, then, swap)
                    self.assertEqual(then, goal)

    def test_lag_and_lengths(self):
        for one in SWAPPABLE:
            for other in SWAPPABLE:
                found = lag(one, other)
                if found is None:
                    continue
                number, amount = found
                self.assertEqual(least(one, amount) - least(other, amount), number)
                pair = certify_lag(one, other)
                if pair is not None:
                    self.assertEqual(pair[0][3:], (amount, number))
                    self.assertIs(accepts(*pair), True)

    def test_deals_are_no_longer_than_payments(self):
        for lot in TRIED_LOTS[::3]:
            for amount in (0, 1, 17, 60, 399):
                moved = least_moved(lot, amount)
                if is_paid(lot, amount):
                    self.assertLessEqual(moved, least(lot, amount))
                if moved is not None:
                    handed, back = least_deal(lot, amount)
                    self.assertEqual(sum(handed) + sum(back), moved)
                    self.assertIs(accepts(("settled", str(lot), amount, moved), (handed, back)), True)
                self.assertEqual(moved is None, amount % divisor(lot) != 0)

    def test_stretch(self):
        for lot in TRIED_LOTS:
            top, bottom, amount = stretch(lot)
            self.assertEqual(most(lot, amount) * bottom, least(lot, amount) * top)


class CountingTest(unittest.TestCase):
    """Ways of counting meet."""

    def test_payments(self):
        for coins in TRIED_COINS[::2]:
            lot = Lot(coins)
            for amount in (0, 7, 24, 60, 61):
                number = count_payments(lot, amount)
                self.assertEqual(certify_ways(lot, amount)[0][3], number)
                self.assertEqual(is_paid(lot, amount), number > 0)
                if plain.least_common_multiple(coins) <= 2520:
                    self.assertEqual(great_count(lot, amount), number)
                if 0 < number <= 400:
                    known = payments(lot, amount)
                    self.assertEqual((len(known), known[0], known[-1]),
                                     (number, first_payment(lot, amount), last_payment(lot, amount)))
                    for at in (0, number // 2, number - 1):
                        self.assertEqual(nth_payment(lot, amount, at), known[at])
                        self.assertEqual(place_of(lot, known[at]), at)

    def test_single_sums(self):
        for coins in ((2, 3), (3, 5, 7), (5, 8), (6, 10, 15), (4, 6, 9)):
            lot = Lot(coins)
            self.assertEqual([amount for amount in range(401) if count_payments(lot, amount) == 1],
                             [amount for amount in single_sums(lot) if amount <= 400])

    def test_purses(self):
        for purse in plain_purses.some_purses(81, 30, 8, (3, 6, 40)):
            self.assertEqual([amount for amount in range(sum(purse) + 2) if ways_held(purse, amount)], list(held(purse)))
            for amount in held(purse):
                self.assertEqual(ways_held(purse, amount), ways_held(purse, sum(purse) - amount))
                self.assertEqual(ways_held(purse, amount), ways_to_settle(purse, (), amount))

    def test_a_desk_and_a_console_count_alike(self):
        console = Console((), ())
        for coins in ((3, 5, 7), (5, 8), (4, 6), (1, 2, 5)):
            lot = Lot(coins)
            text = ",".join(map(str, coins))
            for amount in (0, 15, 40):
                number = console.say(f"payments {amount} {text}")
                desk = Desk()
                desk.put("a", lot)
                desk.promise(("a", ("ways", amount, int(number))))
                with self.assertRaises(Broken):
                    desk.promise(("a", ("ways", amount, int(number) + 1)))
                self.assertIs(accepts(("ways", str(lot), amount, int(number)), certify_ways(lot, amount)[1]), True)


class GreatTest(unittest.TestCase):
    """Great sums are told as small ones are."""

    def test_lengths(self):
        for lot in TRIED_LOTS[::2]:
            low, high = lot.coins[0], lot.coins[-1]
            for amount in range(3600, 3600 + high, 11):
                if not is_paid(lot, amount):
                    continue
                for many in (1, 7, 10 ** 27):
                    self.assertEqual(least(lot, amount + many * high), least(lot, amount) + many)
                    self.assertEqual(most(lot, amount + many * low), most(lot, amount) + many)
                    self.assertEqual(least_moved(lot, -amount - many * high), least_moved(lot, amount) + many)

    def test_losses_and_gains(self):
        for lot in TRIED_LOTS[::2]:
            low, high = lot.coins[0], lot.coins[-1]
            for amount in (MOST, MOST - 1, MOST - 59):
                if is_paid(lot, amount):
                    self.assertEqual(high * least(lot, amount) - amount, losses(lot)[amount % high])
                    self.assertEqual(amount - low * most(lot, amount), gains(lot)[amount % low])
                if least_moved(lot, amount) is not None:
                    self.assertEqual(high * least_moved(lot, amount) - amount, moved_losses(lot)[amount % high])

    def test_paid_and_missed(self):
        for lot in TRIED_LOTS:
            table = least_sums(lot, lot.coins[-1])
            for amount in (MOST, MOST - 1, MOST - 7):
                known = table[amount % lot.coins[-1]] is not None
                self.assertIs(is_paid(lot, amount), known)
                self.assertEqual(certify_paid(lot, amount)[0][0], "paid" if known else "missed")
                self.assertEqual(least(lot, amount) is not None, known)

    def test_papers(self):
        for lot in TRIED_LOTS:
            for amount in (4000, 4001, 10 ** 15 + 1, MOST):
                for call in (certify_paid, certify_least, certify_most, certify_moved):
                    pair = call(lot, amount)
                    if pair is not None:
                        self.assertIs(accepts(*pair), True)
                        changed = pair[0][:-1] + (pair[0][-1] + 1,)
                        self.assertIs(accepts(changed, pair[1]) and changed[0] not in ("missed",), False)


class PursesTest(unittest.TestCase):
    """Two purses, their pot and a counter."""

    def test_a_counter_settles_what_the_pot_holds(self):
        for buyer in plain_purses.some_purses(82, 30, 6):
            for seller in ((), (1, 2), (1, 1, 3), (5, 10)):
                both = pot(buyer, seller)
                settled = prices(buyer, seller)
                self.assertEqual(settled, tuple(total - sum(seller) for total in held(both)))
                for price in range(settled[0] - 1, min(settled[-1] + 2, 40)):
                    self.check_price(Counter(buyer, seller), price, price in settled)

    def check_price(self, counter, price, is_settled):
        buyer, seller = counter.buyer, counter.seller
        self.assertEqual(ways_to_settle(buyer, seller, price) > 0, is_settled)
        word = certify_price(buyer, seller, price)[0][0]
        self.assertEqual(word, "price" if is_settled else "no price")
        if not is_settled:
            with self.assertRaises(NotSettled):
                counter.pay(price)
            self.assertEqual(counter.changes, 0)
            return
        counter.pay(price)
        self.assertEqual((counter.buyer, counter.seller), behind(buyer, seller, deal_for(buyer, seller, price)))
        self.assertEqual(pot(counter.buyer, counter.seller), pot(buyer, seller))
        counter.undo()
        self.assertEqual((counter.buyer, counter.seller), (buyer, seller))

    def test_dealing_never_spoils_what_both_can_do(self):
        source = random.Random(83)
        for lost in (0, 1):
            both = best_purse(8, lost)
            for _ in range(10):
                buyer = tuple(sorted(source.sample(both, 4)))
                counter = Counter(buyer, plain_purses.without(both, buyer))
                for _ in range(12):
                    self.assertIs(settles_all(counter.buyer, counter.seller, lost), True)
                    settled = prices(counter.buyer, counter.seller)
                    self.assertEqual(settled, tuple(range(-sum(counter.seller), sum(counter.buyer) + 1)))
                    self.assertEqual(reach(counter.buyer, counter.seller), sum(counter.buyer))
                    counter.pay(source.choice(settled))

    def test_full_purses(self):
        for purse in plain_purses.some_purses(84, 60, 9, (1, 2, 3, 5)):
            for lost in range(3):
                pair = certify_full(purse, lost)
                self.assertEqual(pair is not None and pair[0][0] == "full", is_full(purse, lost))
                if is_full(purse, lost):
                    self.assertIsNone(gap(purse, lost))
                    piece = may_come(purse, lost)
                    counter = Counter(purse, ())
                    counter.put(piece)
                    self.assertIs(is_full(counter.buyer, lost), True)
                    counter.undo()
                    if piece < 1000:
                        counter.put(piece + 1)
                        self.assertIs(is_full(counter.buyer, lost), False)

    def test_partings_are_of_full_purses(self):
        for purse in plain_purses.some_purses(85, 30, 8, (2, 3, 4)):
            for hands in range(1, 4):
                parting = full_parting(purse, hands)
                self.assertEqual(parting is not None, 1 <= hands <= most_hands(purse))
                if parting is not None:
                    self.assertTrue(all(is_full(hand, 0) for hand in parting))
                    self.assertEqual(tuple(sorted(piece for hand in parting for piece in hand)), purse)
            for parting in even_partings(purse, 2):
                self.assertIn(0, prices(*parting))
                self.assertEqual(sum(parting[0]), sum(parting[1]))

    def test_desks_promise_what_purses_hold(self):
        for purse in plain_purses.some_purses(86, 30, 7, (2, 3, 9)):
            desk = Desk()
            desk.put("a", purse)
            for amount in range(12):
                desk.promise(("a", ("holds", amount, ways_held(purse, amount))))
            if len(purse) <= 6:
                desk.promise(("reach", "a", "a", reach(purse, purse)))
            self.assertEqual(played(desk.log).promises, desk.promises)


class QueuesTest(unittest.TestCase):
    """Queues and counters."""

    def some_queues(self):
        source = random.Random(87)
        for _ in range(120):
            till = tuple(sorted(source.choice((1, 2, 5)) for _ in range(source.randint(0, 3))))
            queue = []
            for _ in range(source.randint(0, 4)):
                purse = tuple(sorted(source.choice((1, 2, 5, 10)) for _ in range(source.randint(0, 2))))
                queue.append((purse, source.randint(0, sum(purse))))
            yield till, tuple(queue)

    def test_a_plan_is_done_at_counters(self):
        passed = 0
        for till, queue in self.some_queues():
            deals = plan(till, queue)
            self.assertEqual(deals is not None, passes(till, queue))
            if deals is None:
                self.assertEqual(tills(till, queue), ())
                self.assertFalse(passes(till, queue[:stuck(till, queue) + 1]))
                continue
            passed += 1
            left = till
            for (purse, price), deal in zip(queue, deals):
                counter = Counter(purse, left)
                counter.settle(deal)
                self.assertEqual(sum(purse) - sum(counter.buyer), price)
                left = counter.seller
            self.assertIn(left, tills(till, queue))
            self.assertEqual(sum(left), sum(till) + sum(price for _, price in queue))
        self.assertGreater(passed, 20)

    def test_what_any_deals_lead_to_is_told(self):
        for till, queue in self.some_queues():
            self.assertEqual(tills(till, queue), tuple(sorted(plain_purses.tills_of(till, queue))))
            for order in orders(till, queue):
                self.assertTrue(passes(till, tuple(queue[at] for at in order)))

    def test_a_piece_more_never_keeps_a_queue_from_passing(self):
        for till, queue in self.some_queues():
            if passes(till, queue):
                self.assertTrue(passes(tuple(sorted(till + (5,))), queue))
                for at, (purse, price) in enumerate(queue):
                    richer = queue[:at] + ((tuple(sorted(purse + (2,))), price),) + queue[at + 1:]
                    self.assertTrue(passes(till, richer))


class StandsTest(unittest.TestCase):
    """Stands and what they miss."""

    def test_a_name_is_a_coin_struck(self):
        for sums in plain_stands.tried_stands()[::2]:
            stand = Lot(plain_stands.coins_missing(sums))
            self.assertEqual(missed(stand), sums)
            self.assertEqual(count_missed(stand), len(sums))
            for name in sums:
                then = named(stand, (name,))
                if len(stand.coins) < 15:
                    self.assertEqual(lean(struck(stand, name)), then)
                    self.assertEqual(set(gained_sums(stand, name)), set(sums) - set(missed(then)))
                self.assertIs(is_within(stand, then), True)
                self.assertEqual(first_unlike(stand, then), name)
                self.assertIs(name in good_names(stand), not is_won(then))

    def test_good_names_and_games(self):
        for sums in plain_stands.tried_stands()[::2]:
            stand = Lot(plain_stands.coins_missing(sums))
            self.assertEqual(bool(good_names(stand)) or sums == (), is_won(stand))
            names = game(stand)
            self.assertEqual(len(names), end(stand))
            self.assertEqual(named(stand, names).coins, (1,))
            for at in range(len(names)):
                self.assertEqual(end(named(stand, names[:at])), len(names) - at)
            word = certify_stand(stand)[0][0]
            self.assertEqual(word == "won", is_won(stand))
            if is_quiet(stand):
                self.assertEqual(word, "won")
            last = last_missed(stand)
            self.assertEqual(certify_last(stand) is None, last is None)

    def test_a_desk_and_a_console_know_who_wins(self):
        console = Console((), ())
        seen = set()
        for coins in ((1, 2), (2, 3), (3, 4, 5), (4, 5), (5, 8), (4, 5, 11), (6, 7, 8, 9, 10, 11), (3, 5, 7), (4, 6, 9)):
            lot = Lot(coins)
            desk = Desk()
            desk.put("a", lot)
            answer = console.say("won " + ",".join(map(str, coins)))
            seen.add(answer)
            self.assertEqual(answer, "yes" if is_won(lot) else "no")
            self.assertEqual(certify_stand(lot)[0][0], "won" if answer == "yes" else "lost")
            if answer == "yes":
                desk.promise(("a", ("won",)))
            else:
                with self.assertRaises(Broken):
                    desk.promise(("a", ("won",)))
        self.assertEqual(seen, {"yes", "no"})


class HiddenTest(unittest.TestCase):
    """Hidden lots are asked to the end."""

    def test_asked_to_the_end(self):
        for coins in sound_lots()[::4]:
            lot = Lot(coins)
            view = View(())
            for _ in range(12):
                self.assertIsNotNone(certify_fit(view, lot))
                self.check_sure(view, lot)
                asked = next_sum(view)
                if asked is None:
                    break
                view = view.more(("paid" if is_paid(lot, asked) else "missed", asked))
            self.assertEqual(fitting(view), (coins,))
            for amount in range(1, 12):
                self.assertEqual(sure(view, amount), "paid" if is_paid(lot, amount) else "missed")

    def check_sure(self, view, lot):
        for amount in (1, 3, 5, 7, 10, 12, 400):
            word = sure(view, amount)
            pair = certify_sure(view, amount)
            self.assertEqual(pair is None, word == "open")
            if pair is not None:
                self.assertEqual(pair[0][3], word)
                self.assertIs(accepts(*pair), True)
                self.assertEqual(word, "paid" if is_paid(lot, amount) else "missed")

    def test_other_questions(self):
        for coins in sound_lots()[::9]:
            lot = Lot(coins)
            view = View(())
            for amount in (13, 17, 22, 26):
                for telling in (("ways", amount, count_payments(lot, amount)), ("least", amount, least(lot, amount)),
                                ("most", amount, most(lot, amount))):
                    view = view.more(telling)
                    self.assertIn(coins, fitting(view))
                    self.assertIs(can_be(view), True)
            self.assertIs(accepts(("fits", view.tellings, str(lot)), ()), True)
            self.assertIs(is_sound(lot), True)


class CoinsTest(unittest.TestCase):
    """Coins called in and struck."""

    def test_called_in_and_struck_again(self):
        for lot in TRIED_LOTS[::2]:
            for coin in lot.coins if len(lot.coins) > 1 else ():
                left = called_in(lot, coin)
                self.assertEqual(struck(left, coin), lot)
                self.assertIs(is_within(left, lot), True)
                self.assertIs(pay_alike(left, lot), coin not in lean(lot).coins)
                if divisor(left) == divisor(lot):
                    lost = lost_sums(lot, coin)
                    self.assertEqual(gained_sums(left, coin), lost)
                    self.assertEqual(lost[:1], () if pay_alike(left, lot) else (first_unlike(left, lot),))
                    if divisor(lot) == 1:
                        self.assertEqual(count_missed(left) - count_missed(lot), len(lost))

    def test_kept_lots_pay_what_is_told(self):
        source = random.Random(88)
        for coins in TRIED_COINS:
            lot = Lot(coins[:7])
            paid = [amount for amount in range(1, 200) if is_paid(lot, amount)]
            amounts = tuple(sorted(source.sample(paid, min(3, len(paid)))))
            kept = kept_lots(lot, amounts)
            self.assertGreaterEqual(calling_orders(lot, amounts), len(kept))
            for some in kept:
                self.assertTrue(all(is_paid(Lot(some), amount) for amount in amounts))
                self.assertIs(is_within(Lot(some), lot), True)
                self.assertIs(accepts(*certify_kept(lot, amounts, Lot(some))), True)

    def test_strikes(self):
        for coins in TRIED_COINS:
            for least_coin, start in ((1, 1), (2, 5), (7, 10)):
                lot = Lot(coins)
                for coin in strikes(lot, least_coin, start):
                    lot = joined(lot, Lot((coin,)))
                self.assertEqual(divisor(lot), 1)
                self.assertLess(last_missed(lot) or 0, start)


if __name__ == "__main__":
    unittest.main()
