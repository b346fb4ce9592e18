"""[8], [9]: sums that are paid in one way, or in a few ways only."""

import random
import unittest
from math import gcd

from mintlots.errors import InvalidNumber, InvalidPayment, NoEnd, NotALot, TooMany
from mintlots.lots import Lot
from mintlots.payments import count_payments, payments
from mintlots.singles import few_sums, is_single, last_single, other_payment, single_sums
from tests import plain

FEW_COINS = ((1, 2), (1, 60), (2, 3), (2, 4), (4, 6), (5, 8), (6, 10), (12, 18), (20, 30), (7, 11), (9, 14), (24, 60),
             (29, 31), (1, 2, 3), (3, 5, 7), (4, 6, 9), (6, 10, 15), (2, 4, 8), (5, 10, 20), (7, 8, 9), (10, 14, 21),
             (13, 17, 19), (1, 5, 10, 25), (4, 6, 8, 13), (5, 6, 7, 8), (6, 9, 12, 20), (10, 15, 20, 30),
             (11, 13, 17, 19), (12, 18, 27, 30), (30, 42, 45, 60))


def ways_up_to(coins, top):
    """How many payments 0, 1, .. up to `top` have, coin by coin."""
    ways = [1] + [0] * top
    for coin in coins:
        for amount in range(coin, top + 1):
            ways[amount] += ways[amount - coin]
    return ways


def last_by_bounds(coins, ways):
    """By [9] no sum behind this one is paid in so few ways."""
    return sum(one * (min(ways * other // gcd(one, other) for other in coins if other != one) - 1) for one in coins)


class FewSumsTest(unittest.TestCase):
    def test_against_counting_all_payments(self):
        for coins in FEW_COINS:
            for ways in (1, 2, 3, 4):
                top = last_by_bounds(coins, ways) + 200
                known = ways_up_to(coins, top)
                with self.subTest(coins=coins, ways=ways):
                    right = tuple(amount for amount in range(top + 1) if 1 <= known[amount] <= ways)
                    told = few_sums(Lot(coins), ways)
                    self.assertEqual(told, right)
                    self.assertIs(type(told), tuple)
                    self.assertEqual(told[0], 0)
                    self.assertEqual(few_sums(ways=ways, lot=Lot(coins)), right)

    def test_many_coins(self):
        for coins in ((1, 2, 3, 4, 5, 6, 7), tuple(range(46, 61)), (20, 24, 30, 36, 40, 45), tuple(range(4, 61, 4)),
                      (31, 37, 41, 43, 47, 53, 59)):
            known = ways_up_to(coins, 3000)
            for ways in (1, 2, 3, 4):
                with self.subTest(coins=coins, ways=ways):
                    right = tuple(amount for amount in range(3001) if 1 <= known[amount] <= ways)
                    self.assertEqual(few_sums(Lot(coins), ways), right)

    def test_single_sums(self):
        for coins in FEW_COINS:
            with self.subTest(coins=coins):
                told = single_sums(Lot(coins))
                self.assertEqual(told, few_sums(Lot(coins), 1))
                self.assertEqual(told, single_sums(lot=Lot(coins)))
                self.assertEqual(last_single(Lot(coins)), told[-1])
                self.assertEqual(last_single(lot=Lot(coins)), told[-1])
                for amount in range(min(told[-1] + 80, 401)):
                    self.assertEqual(count_payments(Lot(coins), amount) == 1, amount in told)

    def test_two_coins(self):
        for low in range(1, 61, 3):
            for high in range(low + 1, 61, 2):
                common = gcd(low, high)
                # Below the least common multiple no two payments can come to the same.
                lot = Lot((low, high))
                self.assertEqual(last_single(lot), 2 * low * high // common - low - high)
                told = single_sums(lot)
                multiple = low * high // common
                below = tuple(amount for amount in range(multiple) if plain.pays(lot.coins, amount))
                self.assertEqual(tuple(amount for amount in told if amount < multiple), below)
                for ways in (2, 3, 4):
                    self.assertEqual(few_sums(lot, ways)[-1], (ways + 1) * multiple - low - high)

    def test_the_greatest_ones(self):
        self.assertEqual(few_sums(Lot((59, 60)), 4)[-1], 5 * 59 * 60 - 59 - 60)
        self.assertEqual(len(few_sums(Lot((59, 60)), 1)), 59 * 60)

    def test_one_coin(self):
        for coin in (1, 2, 7, 60):
            for call in (lambda: few_sums(Lot((coin,)), 1), lambda: few_sums(Lot((coin,)), 4),
                         lambda: single_sums(Lot((coin,))), lambda: last_single(Lot((coin,)))):
                with self.subTest(coin=coin), self.assertRaises(NoEnd) as caught:
                    call()
                self.assertEqual(caught.exception.given, coin)

    def test_other_numbers_of_ways(self):
        for ways in (0, 5, -1, 10 ** 30, 10 ** 99, None, True, False, "1", (), (1,), [], [1], {}, object(), Lot((1, 2))):
            for lot in (Lot((5, 8)), Lot((5,))):
                with self.subTest(ways=ways), self.assertRaises(InvalidNumber) as caught:
                    few_sums(lot, ways)
                self.assertIs(caught.exception.given, ways)

    def test_the_order_of_errors(self):
        with self.assertRaises(NotALot):
            few_sums((5,), 0)


SINGLE_COINS = plain.EDGE_COINS[:16] + ((2, 4, 8, 16, 32),) + tuple(
    coins for coins in plain.some_coins(11, 60, 40) if len(coins) <= 6)


def some_payments(coins, number, most, seed=3):
    """Payments of sums up to `most`, of few and many kinds of coins."""
    source = random.Random(seed)
    found = []
    while len(found) < number:
        payment = [0] * len(coins)
        for at in source.sample(range(len(coins)), source.randint(1, len(coins))):
            payment[at] = source.randint(0, source.choice((1, 3, 10, most // coins[at])))
        if plain.sum_of(coins, payment) <= most:
            found.append(tuple(payment))
    return found


class OtherPaymentTest(unittest.TestCase):
    def check(self, coins, payment, number):
        lot = Lot(coins)
        other = other_payment(lot, payment)
        self.assertIs(is_single(lot, payment), number == 1)
        if number == 1:
            self.assertIsNone(other)
            return
        self.assertIs(type(other), tuple)
        self.assertEqual(len(other), len(coins))
        self.assertEqual({type(many) for many in other}, {int})
        self.assertTrue(all(many >= 0 for many in other))
        self.assertNotEqual(other, payment)
        self.assertEqual(plain.sum_of(coins, other), plain.sum_of(coins, payment))
        self.assertEqual(other_payment(payment=payment, lot=lot), other)
        self.assertIs(is_single(payment=payment, lot=lot), False)

    def test_all_payments_of_small_sums(self):
        for coins in SINGLE_COINS:
            for amount in range(0, 200):
                if plain.number_of_payments(coins, amount) > 30:
                    continue
                told = payments(Lot(coins), amount)
                for payment in told:
                    with self.subTest(coins=coins, payment=payment):
                        self.check(coins, payment, len(told))

    def test_sums_up_to_four_thousand(self):
        for coins in SINGLE_COINS:
            ways = ways_up_to(coins, 4000)
            for payment in some_payments(coins, 40, 4000):
                with self.subTest(coins=coins, payment=payment):
                    self.check(coins, payment, ways[plain.sum_of(coins, payment)])

    def test_known_payments(self):
        few = Lot((5, 8))
        self.assertEqual(other_payment(few, (8, 0)), (0, 5))
        self.assertEqual(other_payment(few, (0, 5)), (8, 0))
        self.assertIsNone(other_payment(few, (7, 4)))
        self.assertIs(is_single(few, (7, 4)), True)
        self.assertIs(is_single(few, (0, 0)), True)
        self.assertIs(is_single(Lot((40,)), (100,)), True)
        self.assertIs(is_single(Lot((1, 60)), (4000, 0)), False)
        self.assertIs(is_single(Lot((1, 60)), (59, 0)), True)
        self.assertIn(other_payment(Lot((1, 2)), (1, 1)), ((3, 0),))

    def test_above_four_thousand(self):
        for coins, payment, amount in (((1,), (4001,), 4001), ((5, 8), (800, 1), 4008), ((1, 60), (41, 66), 4001),
                                       ((3, 5, 7), (0, 0, 10 ** 40), 7 * 10 ** 40)):
            for call in (is_single, other_payment):
                with self.subTest(coins=coins), self.assertRaises(TooMany) as caught:
                    call(Lot(coins), payment)
                self.assertEqual(caught.exception.given, amount)
        self.assertIs(is_single(Lot((1,)), (4000,)), True)
        self.assertIs(is_single(Lot((5, 8)), (800, 0)), False)

    def test_wrong_payments(self):
        for call in (is_single, other_payment):
            for payment, index in (((0, 0), 2), ((0, 0, 0, 0), 3), ((5000, 5000, True), 2), ((-1, 0, 0), 0), ((), 0)):
                with self.subTest(payment=payment), self.assertRaises(InvalidPayment) as caught:
                    call(Lot((3, 5, 7)), payment)
                self.assertEqual(caught.exception.index, index)
            with self.assertRaises(NotALot):
                call((3, 5, 7), (5000, 5000, True))


if __name__ == "__main__":
    unittest.main()
