"""[2], [6], [12], [13], [14]: how few and how many coins pay a sum, and what lies between."""

import random
import unittest
from fractions import Fraction
from math import gcd

from mintlots.errors import Missed
from mintlots.lengths import (gains, least, least_payment, length_step, lengths, losses, most, most_payment, stretch)
from mintlots.lots import Lot, is_paid
from mintlots.payments import payments
from tests import plain
from tests.plain import TRIED_COINS, lengths_tables

LARGEST = 10 ** 30
SMALL_COINS = ((1,), (6,), (1, 2), (2, 3), (5, 8), (6, 10), (7, 12), (1, 5, 11), (3, 5, 7), (4, 6, 9), (6, 10, 15),
               (3, 8, 13), (4, 10, 14), (1, 7, 10, 12), (5, 6, 7, 8), (6, 9, 12, 15), (1, 2, 4, 8, 16))


def bounds(coins):
    """The bounds of [12] for the fewest and the most coins."""
    return ((coins[-1] - 1) * coins[-2] if len(coins) > 1 else 0), (coins[0] - 1) * coins[-1]


def some_amounts(coins):
    """Small sums, sums about the bounds of [12], and others up to 7000."""
    found = list(range(0, 70, 3)) + [7000 - coins[-1], 6999, 7000]
    for bound in bounds(coins):
        for about in (bound, bound + coins[0], bound + coins[-1]):
            found.extend(range(max(0, about - 2), about + 3))
    source = random.Random(repr(coins))
    return sorted(set(found + [source.randint(0, 7000) for _ in range(8)]))


class LeastAndMostTest(unittest.TestCase):
    def check(self, coins, amount, fewest, greatest):
        lot = Lot(coins)
        self.assertEqual((least(lot, amount), most(lot, amount)), (fewest, greatest))
        if fewest is None:
            for call in (least_payment, most_payment):
                with self.assertRaises(Missed) as caught:
                    call(lot, amount)
                self.assertEqual(caught.exception.given, amount)
            return
        for call, length in ((least_payment, fewest), (most_payment, greatest)):
            told = call(lot, amount)
            self.assertIs(type(told), tuple)
            self.assertEqual(len(told), len(coins))
            self.assertEqual({type(many) for many in told}, {int})
            self.assertTrue(all(many >= 0 for many in told))
            self.assertEqual(plain.sum_of(coins, told), amount)
            self.assertEqual(sum(told), length)
            self.assertEqual(call(amount=amount, lot=lot), told)

    def test_all_small_sums(self):
        for coins in SMALL_COINS:
            fewest, greatest = lengths_tables(coins, 7200)
            for amount in range(0, 500):
                with self.subTest(coins=coins, amount=amount):
                    self.check(coins, amount, fewest[amount], greatest[amount])

    def test_sums_by_all_lots(self):
        for coins in TRIED_COINS:
            fewest, greatest = lengths_tables(coins, 7200)
            for amount in some_amounts(coins):
                with self.subTest(coins=coins, amount=amount):
                    self.check(coins, amount, fewest[amount], greatest[amount])

    def test_all_sums_about_the_bounds(self):
        for coins in ((59, 60), (1, 59, 60), (31, 59, 60), (7, 11), (57, 58, 59, 60), (2, 60), (1, 60), (50,)):
            fewest, greatest = lengths_tables(coins, 7200)
            for bound in bounds(coins):
                for amount in range(max(0, bound - 62), bound + 125):
                    told = least(Lot(coins), amount), most(Lot(coins), amount)
                    if told != (fewest[amount], greatest[amount]):
                        self.fail((coins, amount, told))

    def test_great_sums(self):
        for coins in TRIED_COINS:
            known_losses, known_gains = plain.losses_of(coins), plain.gains_of(coins)
            for amount in (7201, 10 ** 9 + 7, 10 ** 29 + 12345, 123456789012345678901234567890, LARGEST - 59, LARGEST - 1,
                           LARGEST):
                fewest = greatest = None
                if plain.pays(coins, amount):
                    fewest, over = divmod(amount + known_losses[amount % coins[-1]], coins[-1])
                    self.assertEqual(over, 0)
                    greatest, over = divmod(amount - known_gains[amount % coins[0]], coins[0])
                    self.assertEqual(over, 0)
                with self.subTest(coins=coins, amount=amount):
                    self.check(coins, amount, fewest, greatest)

    def test_going_on_step_by_step(self):
        for coins in ((5, 8), (6, 10, 15), (1, 59, 60), (58, 60), (7,)):
            lot = Lot(coins)
            for start in (10 ** 12, LARGEST - 200):
                for amount in range(start + 62, start + 140):
                    for call, choose in ((least, min), (most, max)):
                        ahead = [call(lot, amount - coin) for coin in coins if is_paid(lot, amount - coin)]
                        self.assertEqual(call(lot, amount), choose(ahead) + 1 if ahead else None)

    def test_known_lengths(self):
        odd = Lot((3, 5, 7))
        self.assertEqual((least(odd, 29), most(odd, 29)), (5, 9))
        self.assertEqual(least_payment(odd, 28), (0, 0, 4))
        self.assertEqual(least(odd, LARGEST), 142857142857142857142857142858)
        self.assertEqual((least(odd, 0), most(odd, 0)), (0, 0))
        self.assertEqual((least_payment(odd, 0), most_payment(odd, 0)), ((0, 0, 0), (0, 0, 0)))
        self.assertEqual((least(odd, 4), most(odd, 4)), (None, None))
        self.assertEqual((least(Lot((50,)), LARGEST), most(Lot((50,)), LARGEST)), (LARGEST // 50, LARGEST // 50))
        self.assertEqual((least(Lot((60,)), LARGEST), most(Lot((60,)), LARGEST)), (None, None))
        self.assertEqual((least(Lot((1, 60)), LARGEST), most(Lot((1, 60)), LARGEST)), (LARGEST // 60 + 40, LARGEST))
        # Greedily 6 would be paid by three coins.
        self.assertEqual(least_payment(Lot((1, 3, 4)), 6), (0, 2, 0))
        self.assertEqual(most_payment(Lot((4, 6, 9)), 18), (3, 1, 0))


class LengthsTest(unittest.TestCase):
    def test_against_the_list_of_all_payments(self):
        for coins in TRIED_COINS:
            for amount in (0, 1, 7, 30, 59, 60, 61, 97, 119, 120, 180, 251, 360, 400):
                if plain.number_of_payments(coins, amount) > 3000:
                    continue
                with self.subTest(coins=coins, amount=amount):
                    right = tuple(sorted({sum(payment) for payment in plain.all_payments(coins, amount)}))
                    told = lengths(Lot(coins), amount)
                    self.assertEqual(told, right)
                    self.assertIs(type(told), tuple)
                    self.assertEqual({type(many) for many in told} | {int}, {int})
                    self.assertEqual(lengths(small=amount, lot=Lot(coins)), told)

    def test_against_payments(self):
        for coins in SMALL_COINS:
            for amount in range(0, 90):
                if plain.number_of_payments(coins, amount) > 400:
                    continue
                with self.subTest(coins=coins, amount=amount):
                    known = payments(Lot(coins), amount)
                    told = lengths(Lot(coins), amount)
                    self.assertEqual(told, tuple(sorted({sum(payment) for payment in known})))

    def test_ends(self):
        for coins in TRIED_COINS:
            lot = Lot(coins)
            for amount in (0, 58, 143, 240, 399, 400):
                told = lengths(lot, amount)
                self.assertEqual(told[0] if told else None, least(lot, amount))
                self.assertEqual(told[-1] if told else None, most(lot, amount))

    def test_known_lengths(self):
        self.assertEqual(lengths(Lot((3, 5, 7)), 29), (5, 7, 9))
        self.assertEqual(lengths(Lot((1,)), 400), (400,))
        self.assertEqual(lengths(Lot((1, 2)), 400), tuple(range(200, 401)))
        self.assertEqual(lengths(Lot((5, 8)), 27), ())
        self.assertEqual(lengths(Lot((5, 8)), 0), (0,))


class StepTest(unittest.TestCase):
    def test_against_the_lengths_of_many_sums(self):
        for coins in TRIED_COINS:
            lot = Lot(coins)
            common = 0
            for amount in range(401):
                told = lengths(lot, amount)
                for length in told:
                    common = gcd(common, length - told[0])
            if common == 0 and len(coins) > 1:
                # Two payments of one sum come first with the least common multiple here.
                continue
            with self.subTest(coins=coins):
                self.assertEqual(common % length_step(lot) if common else length_step(lot), 0)
                if coins[0] * coins[-1] <= 300:
                    self.assertEqual(length_step(lot), common)
                self.assertEqual(length_step(lot=lot), length_step(lot))

    def test_by_swaps_of_two_coins(self):
        for low in range(1, 61):
            for high in range(low + 1, 61):
                common = gcd(low, high)
                self.assertEqual(length_step(Lot((low, high))), (high - low) // common)

    def test_one_coin(self):
        self.assertEqual([length_step(Lot((coin,))) for coin in range(1, 61)], [0] * 60)

    def test_known_steps(self):
        for coins, step in (((3, 5, 7), 2), ((4, 6, 9), 1), ((1, 2), 1), ((5, 8), 3), ((6, 10), 2), ((6, 10, 14), 2),
                            ((4, 8, 12), 1), ((1, 7, 13, 19), 6), ((10, 25, 40), 3), ((1, 7, 13, 16), 3)):
            self.assertEqual(length_step(Lot(coins)), step)


class StretchTest(unittest.TestCase):
    def test_against_both_lengths(self):
        for coins in TRIED_COINS:
            fewest, greatest = lengths_tables(coins, 7200)
            with self.subTest(coins=coins):
                told = stretch(Lot(coins))
                self.assertIs(type(told), tuple)
                self.assertEqual({type(part) for part in told}, {int})
                top, bottom, amount = told
                self.assertEqual(gcd(top, bottom), 1)
                self.assertEqual(Fraction(top, bottom), Fraction(coins[-1], coins[0]))
                right = [at for at in range(1, 7201)
                         if fewest[at] is not None and greatest[at] * coins[0] == coins[-1] * fewest[at]]
                self.assertEqual(amount, right[0])
                self.assertEqual(right, list(range(amount, 7201, amount)))
                self.assertEqual(stretch(lot=Lot(coins)), told)
                most_stretched = max(Fraction(greatest[at], fewest[at]) for at in range(1, 7201) if fewest[at])
                self.assertEqual(most_stretched, Fraction(top, bottom))

    def test_known_ones(self):
        self.assertEqual(stretch(Lot((4, 6, 9))), (9, 4, 36))
        self.assertEqual(stretch(Lot((7,))), (1, 1, 7))
        self.assertEqual(stretch(Lot((6, 10))), (5, 3, 30))
        self.assertEqual(stretch(Lot((1, 60))), (60, 1, 60))


class LossesTest(unittest.TestCase):
    def test_losses_and_gains(self):
        for coins in TRIED_COINS + SMALL_COINS:
            with self.subTest(coins=coins):
                told = losses(Lot(coins))
                self.assertEqual(told, plain.losses_of(coins))
                self.assertIs(type(told), tuple)
                self.assertEqual(losses(lot=Lot(coins)), told)
                told = gains(Lot(coins))
                self.assertEqual(told, plain.gains_of(coins))
                self.assertIs(type(told), tuple)
                self.assertEqual(gains(lot=Lot(coins)), told)

    def test_against_going_through_payments(self):
        for coins in ((1, 2), (2, 3), (4, 6), (3, 5, 7), (4, 6, 8), (6,), (1,), (2, 5, 9)):
            high, low = coins[-1], coins[0]
            loss, gain = [None] * high, [None] * low
            for amount in range(0, 120):
                for payment in plain.all_payments(coins, amount):
                    cost = high * sum(payment) - amount
                    if loss[amount % high] is None or cost < loss[amount % high]:
                        loss[amount % high] = cost
                    cost = amount - low * sum(payment)
                    if gain[amount % low] is None or cost < gain[amount % low]:
                        gain[amount % low] = cost
            self.assertEqual(losses(Lot(coins)), tuple(loss))
            self.assertEqual(gains(Lot(coins)), tuple(gain))

    def test_known_ones(self):
        few = Lot((5, 8))
        self.assertEqual(losses(few), (0, 15, 6, 21, 12, 3, 18, 9))
        self.assertEqual(gains(few), (0, 6, 12, 3, 9))
        self.assertEqual(losses(Lot((4, 6))), (0, None, 4, None, 2, None))
        self.assertEqual(gains(Lot((4, 6))), (0, None, 2, None))
        self.assertEqual(losses(Lot((5,))), (0, None, None, None, None))
        self.assertEqual(gains(Lot((5,))), (0, None, None, None, None))
        self.assertEqual(losses(Lot((1,))), (0,))
        self.assertEqual(gains(Lot((1, 9))), (0,))


if __name__ == "__main__":
    unittest.main()
