"""[7], [8]: first and last payments, and how many there are, of sums of all sizes."""

import unittest

from mintlots.errors import Missed, TooMany
from mintlots.lots import Lot
from mintlots.payments import count_payments, first_payment, great_count, last_payment
from tests import plain
from tests.plain import TRIED_COINS, TRIED_LOTS

MOST = 10 ** 30
GREAT = (401, 3599, 3600, 3601, 10 ** 6 + 7, 10 ** 29 + 12345, 123456789012345678901234567890, MOST - 59, MOST - 1,
         MOST)

PERIODIC = [coins for coins in TRIED_COINS + tuple(plain.some_coins(7, 120, 12)) + (
    (1, 2, 3), (1, 2, 3, 4, 5, 6, 7, 8, 9, 10, 12, 14, 15, 18, 20), (8, 9, 35), (35, 36, 56, 60),
    (56, 60), (2, 3, 4, 6, 12), (5, 7, 8, 9), (1, 5, 10, 25, 50), (40, 42, 45, 56, 60),
) if plain.least_common_multiple(coins) <= 2520]


class EndsTest(unittest.TestCase):
    def test_small_sums(self):
        for coins in TRIED_COINS:
            for amount in list(range(0, 62)) + [97, 150, 240, 399, 400]:
                if plain.number_of_payments(coins, amount) > 2000:
                    continue
                known = plain.all_payments(coins, amount)
                with self.subTest(coins=coins, amount=amount):
                    if known:
                        self.assertEqual(first_payment(Lot(coins), amount), known[0])
                        self.assertEqual(last_payment(Lot(coins), amount), known[-1])
                        continue
                    self.missed(coins, amount)

    def missed(self, coins, amount):
        for call in (first_payment, last_payment):
            with self.assertRaises(Missed) as caught:
                call(Lot(coins), amount)
            self.assertEqual(caught.exception.given, amount)

    def test_no_payment_of_a_great_sum_is_less(self):
        for coins in TRIED_COINS:
            for amount in GREAT:
                with self.subTest(coins=coins, amount=amount):
                    if not plain.pays(coins, amount):
                        self.missed(coins, amount)
                        continue
                    self.check_first(coins, amount, first_payment(Lot(coins), amount))

    def check_first(self, coins, amount, payment):
        self.assertEqual(len(payment), len(coins))
        self.assertEqual(plain.sum_of(coins, payment), amount)
        left = amount
        for at, many in enumerate(payment[:-1]):
            self.assertLess(many, 60)
            self.assertFalse(any(plain.pays(coins[at + 1:], left - less * coins[at]) for less in range(many)))
            left -= many * coins[at]
        self.assertTrue(all(many >= 0 for many in payment))

    def test_no_payment_of_a_great_sum_is_greater(self):
        for coins in TRIED_COINS:
            for amount in GREAT:
                if not plain.pays(coins, amount):
                    continue
                with self.subTest(coins=coins, amount=amount):
                    self.check_last(coins, amount, last_payment(Lot(coins), amount))

    def check_last(self, coins, amount, payment):
        self.assertEqual(len(payment), len(coins))
        self.assertEqual(plain.sum_of(coins, payment), amount)
        left = amount
        for at, many in enumerate(payment[:-1]):
            left -= many * coins[at]
            self.assertLess(left, 3600)
            self.assertFalse(any(plain.pays(coins[at + 1:], rest) for rest in range(left - coins[at], -1, -coins[at])))
        self.assertTrue(all(many >= 0 for many in payment))

    def test_known_payments(self):
        self.assertEqual(first_payment(amount=83, lot=Lot((5, 8))), (7, 6))
        self.assertEqual(last_payment(amount=83, lot=Lot((5, 8))), (15, 1))
        self.assertEqual(first_payment(Lot((1, 60)), MOST), (40, (MOST - 40) // 60))
        self.assertEqual(last_payment(Lot((1, 60)), MOST), (MOST, 0))
        self.assertEqual(first_payment(Lot((50,)), MOST), (MOST // 50,))
        self.assertEqual(last_payment(Lot((50,)), MOST), (MOST // 50,))
        self.assertEqual({type(many) for many in first_payment(Lot((3, 5, 7)), MOST)}, {int})
        self.assertIs(type(last_payment(Lot((3, 5, 7)), MOST)), tuple)

    def test_missed_great_sums(self):
        for coins, amount in (((60,), MOST), ((6, 9), MOST), ((4, 6, 60), MOST - 1), ((59, 60), 3421), ((5, 8), 27)):
            self.missed(coins, amount)


class GreatCountTest(unittest.TestCase):
    def test_there_are_enough_lots(self):
        self.assertGreater(len(PERIODIC), 40)
        self.assertIn(2520, {plain.least_common_multiple(coins) for coins in PERIODIC})
        self.assertIn(15, {len(coins) for coins in PERIODIC})

    def test_the_same_as_count_payments(self):
        for coins in PERIODIC:
            step = 1 if plain.least_common_multiple(coins) < 100 else 37
            for amount in list(range(0, 401, step)) + [399, 400]:
                told = great_count(Lot(coins), amount)
                if told != plain.number_of_payments(coins, amount) or told != count_payments(Lot(coins), amount):
                    self.fail((coins, amount, told))

    def test_beyond_four_hundred(self):
        for coins in PERIODIC:
            for amount in (401, 719, 720, 2519, 2520, 2521, 5041):
                with self.subTest(coins=coins, amount=amount):
                    self.assertEqual(great_count(Lot(coins), amount), plain.great_number_of_payments(coins, amount))

    def test_far_beyond(self):
        for coins in PERIODIC:
            if sum(coins) > 90:
                continue
            for amount in (10 ** 15 + 11, 123456789012345678901234567890, MOST - 1, MOST):
                with self.subTest(coins=coins, amount=amount):
                    self.assertEqual(great_count(Lot(coins), amount), plain.great_number_of_payments(coins, amount))

    def test_fifteen_coins_far_beyond(self):
        coins = (1, 2, 3, 4, 5, 6, 7, 8, 9, 10, 12, 14, 15, 18, 20)
        told = great_count(Lot(coins), MOST)
        self.assertEqual(told, plain.great_number_of_payments(coins, MOST))
        self.assertIs(type(told), int)

    def test_known_numbers(self):
        self.assertEqual(great_count(Lot((1,)), MOST), 1)
        self.assertEqual(great_count(Lot((7,)), MOST), 0)
        self.assertEqual(great_count(Lot((50,)), MOST), 1)
        self.assertEqual(great_count(Lot((1, 2)), MOST), MOST // 2 + 1)
        self.assertEqual(great_count(Lot((1, 2, 3)), MOST), ((MOST + 3) ** 2 + 6) // 12)
        self.assertEqual(great_count(amount=100, lot=Lot((1, 5, 10))), 121)
        self.assertEqual(great_count(Lot((4, 6)), MOST - 1), 0)
        for lot in TRIED_LOTS:
            if lot.coins in PERIODIC:
                self.assertEqual(great_count(lot, 0), 1)

    def test_too_great_a_multiple(self):
        seen = 0
        for coins in TRIED_COINS + ((59, 60), (5, 7, 8, 9, 11), (5, 7, 9, 16), (51, 52), (43, 59)):
            multiple = plain.least_common_multiple(coins)
            if multiple <= 2520:
                continue
            seen += 1
            for amount in (0, 1, 400, MOST):
                with self.subTest(coins=coins, amount=amount), self.assertRaises(TooMany) as caught:
                    great_count(Lot(coins), amount)
                self.assertEqual(caught.exception.given, multiple)
        self.assertGreater(seen, 30)

    def test_the_edge_of_the_multiple(self):
        self.assertEqual(great_count(Lot((5, 7, 8, 9)), 400), plain.number_of_payments((5, 7, 8, 9), 400))
        for coins, multiple in (((43, 59), 2537), ((50, 51), 2550)):
            with self.assertRaises(TooMany) as caught:
                great_count(Lot(coins), 1)
            self.assertEqual(caught.exception.given, multiple)

    def test_needless_coins_count(self):
        with self.assertRaises(TooMany) as caught:
            great_count(Lot((1, 59, 60)), 10)
        self.assertEqual(caught.exception.given, 3540)


if __name__ == "__main__":
    unittest.main()
