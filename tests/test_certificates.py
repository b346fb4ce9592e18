"""mintlots.certificates: each pair is accepted, and its claim is the one that the document tells."""

import random
import unittest
import unittest.mock

from mintlots import backs, calls, certificates, lengths, lots, naming, payments, pots, purses, views
from mintlots.certificates import (certify_fit, certify_full, certify_kept, certify_lag, certify_last, certify_least,
                                   certify_most, certify_moved, certify_paid, certify_price, certify_quiet,
                                   certify_stand, certify_sure, certify_ways)
from mintlots.checker import accepts
from mintlots.errors import (InvalidAmount, InvalidAmounts, InvalidNumber, InvalidPrice, InvalidPurse, Missed, NoEnd,
                             NotALot, NotAStand, NotAView, TooMany)
from mintlots.lots import Lot
from mintlots.views import View
from tests import plain, plain_claims, plain_purses, plain_stands
from tests.plain import TRIED_COINS

MOST = 10 ** 30
GREAT = (4001, 4002, 10 ** 6 + 7, 123456789012345678901234567890, MOST - 61, MOST - 1, MOST)


class CertificateCase(unittest.TestCase):
    def check(self, pair, claim):
        """The pair is accepted, and has this claim."""
        self.assertIs(type(pair), tuple)
        self.assertEqual(len(pair), 2)
        self.assertTrue(plain_claims.same(pair[0], claim), (pair[0], claim))
        self.assertIs(accepts(*pair), True)
        self.assertIs(accepts(paper=pair[1], claim=pair[0]), True)


class LotTest(CertificateCase):
    def test_paid(self):
        for coins in TRIED_COINS:
            for amount in (0, 1, 27, 59, 400, 3421) + GREAT:
                word = "paid" if plain.pays(coins, amount) else "missed"
                self.check(certify_paid(Lot(coins), amount), (word, " ".join(map(str, coins)), amount))

    def test_last(self):
        for coins in TRIED_COINS:
            lot = Lot(coins)
            missed = plain.missed_of(coins) if plain.common_divisor(coins) == 1 else ()
            if missed:
                self.check(certify_last(lot), ("last", str(lot), missed[-1]))
            else:
                self.assertIsNone(certify_last(lot))
        self.check(certify_last(lot=Lot((59, 60))), ("last", "59 60", 3421))
        self.check(certify_last(Lot((2, 3))), ("last", "2 3", 1))

    def test_ways(self):
        for coins in TRIED_COINS:
            for amount in (0, 1, 27, 60, 400):
                number = plain.number_of_payments(coins, amount)
                self.check(certify_ways(Lot(coins), amount), ("ways", str(Lot(coins)), amount, number))

    def test_lengths(self):
        for coins in TRIED_COINS:
            for amount in (0, 1, 59, 60, 61, 3999, 4000) + GREAT:
                for kind, word, call in ((0, "least", certify_least), (1, "most", certify_most)):
                    number = plain_claims.length(coins, amount, kind)
                    if number is None:
                        self.assertIsNone(call(Lot(coins), amount))
                        continue
                    told = word if amount <= 4000 else "great " + word
                    self.check(call(Lot(coins), amount), (told, str(Lot(coins)), amount, number))

    def test_great_lengths_by_small_ones(self):
        for coins in TRIED_COINS[:60]:
            for amount in range(4001, 4001 + 7):
                for call in (certify_least, certify_most):
                    pair = call(Lot(coins), amount)
                    if pair is not None:
                        self.assertIs(accepts(*pair), True)
                        self.assertEqual(pair[0][0], "great least" if call == certify_least else "great most")

    def test_lag(self):
        seen = {"far": 0, "none": 0, "known": 0}
        for at, coins in enumerate(plain.EDGE_COINS):
            for other in plain.EDGE_COINS[at % 5::5] + ((1, 2), (1, 3, 7)):
                found = lengths.lag(Lot(coins), Lot(other))
                pair = certify_lag(Lot(coins), Lot(other))
                if found is None or found[1] > 4000:
                    self.assertIsNone(pair)
                    seen["none" if found is None else "far"] += 1
                    continue
                seen["known"] += 1
                self.check(pair, ("behind", str(Lot(coins)), str(Lot(other)), found[1], found[0]))
        self.assertGreater(seen["known"], 50)
        self.assertGreater(seen["none"], 10)
        self.check(certify_lag(Lot((1, 7)), Lot((1, 3, 7))), ("behind", "1 7", "1 3 7", 6, 4))
        self.check(certify_lag(other=Lot((5, 8)), one=Lot((5, 8))), ("behind", "5 8", "5 8", 0, 0))

    def test_lag_at_a_great_sum(self):
        # No lag is known at a sum above 4000; so the limit is taken lower.
        one, other = Lot((53, 60)), Lot((59,))
        self.assertEqual(lengths.lag(one, other), (6, 3127))
        with unittest.mock.patch.object(certificates, "MOST_STEP", 3127):
            self.check(certify_lag(one, other), ("behind", "53 60", "59", 3127, 6))
        with unittest.mock.patch.object(certificates, "MOST_STEP", 3126):
            self.assertIsNone(certify_lag(one, other))

    def test_moved(self):
        for coins in TRIED_COINS:
            lot = Lot(coins)
            for price in (0, 1, -1, 59, -60, 400, -MOST, MOST, MOST - 1, 1 - MOST):
                number = backs.least_moved(lot, price)
                if price % plain.common_divisor(coins):
                    self.assertIsNone(number)
                    self.assertIsNone(certify_moved(lot, price))
                    continue
                self.check(certify_moved(lot, price), ("settled", str(lot), price, number))

    def test_kept(self):
        source = random.Random(41)
        seen = {"kept": 0, "not": 0, "alone": 0}
        for coins in plain.EDGE_COINS + tuple(plain.some_coins(42, 90, 30)):
            if len(coins) > 6:
                continue
            lot = Lot(coins)
            paid = [amount for amount in range(401) if plain.pays(coins, amount)]
            amounts = tuple(sorted(source.sample(paid, min(len(paid), source.randint(0, 3)))))
            kept = calls.kept_lots(lot, amounts)
            for some in plain_stands.some_of(coins) + [(60,), coins[:-1] + (60,)]:
                if some != tuple(sorted(set(some))):
                    continue
                pair = certify_kept(lot, amounts, Lot(some))
                if some not in kept:
                    seen["not"] += 1
                    self.assertIsNone(pair)
                    continue
                seen["alone" if len(some) == 1 else "kept"] += 1
                self.check(pair, ("kept", str(lot), amounts, str(Lot(some))))
        self.assertGreater(min(seen.values()), 20)


class PurseTest(CertificateCase):
    def test_full(self):
        for purse in plain_purses.some_purses(43, 60, 8, (2, 3, 5, 9)) + [(1, 2, 4, 8), (1, 1, 2, 3), (1,) * 12, (1000,) * 12]:
            for lost in range(12):
                if len(purse) <= lost:
                    self.assertIsNone(certify_full(purse, lost))
                    continue
                word = "full" if plain_purses.full(purse, lost) else "not full"
                self.check(certify_full(purse, lost), (word, purse, lost))

    def test_price(self):
        for buyer in plain_purses.some_purses(44, 25, 6):
            for seller in ((), (1, 2), (3, 5, 10), (1000,)):
                settled = plain_purses.all_prices(buyer, seller)
                for price in list(range(-20, 30)) + [sum(buyer), -sum(seller), MOST, -MOST]:
                    word = "price" if price in settled else "no price"
                    self.check(certify_price(buyer, seller, price), (word, buyer, seller, price))


class StandTest(CertificateCase):
    def test_stand(self):
        source = random.Random(45)
        for sums in plain_stands.tried_stands():
            coins = plain_stands.coins_missing(sums)
            needless = [coin for coin in range(1, 61) if coin not in coins and plain.pays(coins, coin)]
            more = tuple(sorted(coins + tuple(source.sample(needless, min(len(needless), 15 - len(coins), 2)))))
            for stand in (Lot(coins), Lot(more)):
                word = "won" if plain_stands.wins(sums) else "lost"
                self.check(certify_stand(stand), (word, str(stand)))

    def test_quiet(self):
        for sums in plain_stands.tried_stands():
            stand = Lot(plain_stands.coins_missing(sums))
            if plain_claims.claim_holds(("quiet", str(stand))):
                self.check(certify_quiet(stand), ("quiet", str(stand)))
            else:
                self.assertIsNone(certify_quiet(stand))


class ViewTest(CertificateCase):
    def test_fit(self):
        seen = 0
        for tellings in plain_stands.some_tellings(46, 30) + [(), (("missed", 12),)]:
            known = plain_stands.fitting(tellings)
            for coins in tuple(plain_stands.sound_coins()[::3]) + ((3, 5, 7, 10), (2, 15), (60,)):
                pair = certify_fit(View(tellings), Lot(coins))
                if coins in known:
                    seen += 1
                    self.check(pair, ("fits", tellings, str(Lot(coins))))
                else:
                    self.assertIsNone(pair)
        self.assertGreater(seen, 100)

    def test_sure(self):
        seen = {"paid": 0, "missed": 0, "open": 0}
        for tellings in plain_stands.plain_tellings(47, 80) + [(), (("paid", 40), ("paid", 1))]:
            view = View(tellings)
            self.assertIsNone(certify_sure(view, 0))
            fits = views.can_be(view)
            for amount in list(range(1, 27)) + [40, 41, 399, 400]:
                word = plain_claims.sure_word(tellings, amount)
                seen[word] += 1
                if word == "open" or not fits:
                    self.assertIsNone(certify_sure(view, amount))
                else:
                    self.check(certify_sure(view, amount), ("sure", tellings, amount, word))
        self.assertGreater(min(seen.values()), 100)

    def test_sure_by_other_tellings(self):
        for telling in (("ways", 14, 2), ("least", 12, 1), ("most", 12, 3), ("ways", 5, 0)):
            view = View((("paid", 7), telling))
            for amount in (0, 7, 12, 14, 400):
                self.assertIsNone(certify_sure(view, amount))


class RefusedTest(unittest.TestCase):
    def refused(self, call, error, value):
        with self.assertRaises(error) as caught:
            call()
        self.assertEqual(list(vars(caught.exception).values()), [value])

    def test_last_errors(self):
        many = Lot(tuple(range(4, 41, 4)))
        self.refused(lambda: certify_kept(many, (4, 4), 5), InvalidAmounts, 1)
        self.refused(lambda: certify_kept(many, (3, 4), (4,)), NotALot, (4,))
        self.refused(lambda: certify_kept(many, (3, 4), many), Missed, 3)
        self.refused(lambda: certify_kept(many, (4,), many), TooMany, 10)
        self.refused(lambda: certify_price((1,) * 6, (1,) * 7, 10 ** 30 + 1), InvalidPrice, 10 ** 30 + 1)
        self.refused(lambda: certify_price((1,) * 6, (1,) * 7, 1), TooMany, 13)
        self.refused(lambda: certify_price((1,) * 13, (2, 1), None), InvalidPurse, (1,) * 13)
        for call in (certify_stand, certify_quiet):
            self.refused(lambda: call(Lot((6, 10))), NoEnd, 2)
            self.refused(lambda: call(Lot((59, 60))), NotAStand, 1711)
            self.refused(lambda: call((2, 3)), NotALot, (2, 3))
        self.refused(lambda: certify_full((1,), 12), InvalidNumber, 12)
        self.refused(lambda: certify_sure(View((("missed", 12),)), 401), InvalidAmount, 401)
        self.refused(lambda: certify_sure((), 401), NotAView, ())
        self.refused(lambda: certify_fit((), None), NotAView, ())

    def test_the_same_each_time(self):
        for lot in (Lot((5, 8)), Lot((3, 5, 7)), Lot((6, 10, 15))):
            for call in (lambda: certify_least(lot, MOST), lambda: certify_moved(lot, 17), lambda: certify_last(lot)):
                self.assertEqual(call(), call())


class MeetTest(unittest.TestCase):
    def test_claims_tell_what_the_functions_tell(self):
        for coins in TRIED_COINS[::3]:
            lot = Lot(coins)
            for amount in (27, 60, 399):
                self.assertEqual(certify_ways(lot, amount)[0][3], payments.count_payments(lot, amount))
                self.assertEqual(certify_paid(lot, amount)[0][0] == "paid", lots.is_paid(lot, amount))
                for call, told in ((certify_least, lengths.least), (certify_most, lengths.most)):
                    pair = call(lot, amount)
                    self.assertEqual(None if pair is None else pair[0][3], told(lot, amount))
        for purse in plain_purses.some_purses(48, 30, 8, (2, 4)):
            pair = certify_full(purse, 1)
            self.assertEqual(pair is not None and pair[0][0] == "full", purses.is_full(purse, 1))
            self.assertEqual(certify_price(purse, (), 3)[0][0] == "price", 3 in pots.prices(purse, ()))
        for coins in ((2, 3), (4, 5), (3, 5, 7), (4, 6, 9), (5, 8)):
            self.assertEqual(certify_stand(Lot(coins))[0][0] == "won", naming.is_won(Lot(coins)))


if __name__ == "__main__":
    unittest.main()
