"""[16]: deals by a lot, coins given back."""

import random
import unittest

from mintlots.backs import least_deal, least_moved, moved_losses, worst_rests
from mintlots.errors import InvalidPrice, NotALot, NotSettled
from mintlots.lengths import losses
from mintlots.lots import Lot
from tests import plain
from tests.plain import TRIED_COINS, moved_table

LARGEST = 10 ** 30
SMALL_COINS = ((1,), (6,), (1, 2), (2, 3), (5, 8), (6, 10), (7, 12), (1, 5, 11), (3, 5, 7), (4, 6, 9), (6, 10, 15),
               (3, 8, 13), (4, 10, 14), (1, 7, 10, 12), (5, 6, 7, 8), (6, 9, 12, 15), (2, 4, 8, 16), (11, 12, 13))
SOME_COINS = TRIED_COINS[::3] + ((59, 60), (58, 60), (1, 59, 60), (60,), (1, 60), (31, 60), (29, 59, 60))


class DealTest(unittest.TestCase):
    def check(self, coins, price, number):
        lot = Lot(coins)
        self.assertEqual(least_moved(lot, price), number)
        self.assertEqual(least_moved(price=price, lot=lot), number)
        if number is None:
            with self.assertRaises(NotSettled) as caught:
                least_deal(lot, price)
            self.assertEqual(caught.exception.given, price)
            return
        deal = least_deal(lot, price)
        self.assertIs(type(deal), tuple)
        self.assertEqual([type(side) for side in deal], [tuple, tuple])
        handed, back = deal
        self.assertEqual((len(handed), len(back)), (len(coins), len(coins)))
        self.assertEqual({type(many) for many in handed + back}, {int})
        self.assertTrue(all(many >= 0 for many in handed + back))
        self.assertFalse(any(here and there for here, there in zip(handed, back)))
        self.assertEqual(plain.sum_of(coins, handed) - plain.sum_of(coins, back), price)
        self.assertEqual(sum(handed) + sum(back), number)
        self.assertEqual(least_deal(price=price, lot=lot), deal)

    def test_all_small_prices(self):
        for coins in SMALL_COINS:
            known = moved_table(coins, 400)
            for price in range(-400, 401):
                with self.subTest(coins=coins, price=price):
                    self.check(coins, price, known.get(price))

    def test_prices_by_many_lots(self):
        for coins in SOME_COINS:
            known = moved_table(coins, 4000)
            bound = (coins[-1] - 1) * coins[-2] if len(coins) > 1 else 0
            source = random.Random(repr(coins))
            prices = [source.randint(-4000, 4000) for _ in range(12)] + list(range(0, 64, 7))
            for about in (bound, bound + coins[-1], bound - coins[-1]):
                prices += list(range(about - 1, about + 2)) + list(range(-about - 1, 2 - about))
            for price in prices:
                with self.subTest(coins=coins, price=price):
                    self.check(coins, price, known.get(price))

    def test_great_prices(self):
        for coins in SOME_COINS:
            known = plain.moved_losses_of(coins)
            for price in (8001, 10 ** 9 + 7, 10 ** 29 + 12345, 123456789012345678901234567890, LARGEST - 1, LARGEST):
                number = None
                if price % plain.common_divisor(coins) == 0:
                    number, over = divmod(price + known[price % coins[-1]], coins[-1])
                    self.assertEqual(over, 0)
                with self.subTest(coins=coins, price=price):
                    self.check(coins, price, number)
                    self.check(coins, -price, number)

    def test_a_price_and_its_opposite(self):
        for coins in TRIED_COINS:
            for price in (0, 1, 2, 17, 60, 144, 3000, LARGEST - 4):
                self.assertEqual(least_moved(Lot(coins), price), least_moved(Lot(coins), -price))

    def test_known_deals(self):
        few = Lot((5, 8))
        self.assertEqual((least_moved(few, 1), least_moved(few, -1)), (5, 5))
        self.assertEqual(least_deal(few, 3), ((0, 1), (1, 0)))
        self.assertEqual(least_deal(few, -3), ((1, 0), (0, 1)))
        self.assertEqual(least_deal(few, 0), ((0, 0), (0, 0)))
        self.assertEqual(least_moved(few, 0), 0)
        self.assertEqual(least_moved(few, LARGEST), 125 * 10 ** 27)
        self.assertEqual(least_deal(Lot((7,)), -21), ((0,), (3,)))
        self.assertEqual(least_moved(Lot((50,)), -LARGEST), LARGEST // 50)

    def test_what_the_divisor_does_not_divide(self):
        for coins, prices in (((6, 10), (1, -1, 3, LARGEST - 1, 1 - LARGEST)), ((60,), (LARGEST, -LARGEST, 59, 61)),
                              ((4, 8, 60), (2, 6, -2, LARGEST - 2))):
            for price in prices:
                self.check(coins, price, None)

    def test_wrong_prices(self):
        for price in (LARGEST + 1, -LARGEST - 1, 10 ** 99, -10 ** 99, None, True, False, "3", "", b"3", (), (3,), [], [3],
                      {}, {3: 3}, object(), Lot((3,))):
            for call in (least_moved, least_deal):
                with self.subTest(price=price), self.assertRaises(InvalidPrice) as caught:
                    call(Lot((60,)), price)
                self.assertIs(caught.exception.given, price)
                with self.assertRaises(NotALot):
                    call((60,), price)


class MovedLossesTest(unittest.TestCase):
    def test_against_going_through_deals(self):
        for coins in SMALL_COINS + TRIED_COINS[::2] + ((59, 60), (58, 60), (31, 60)):
            with self.subTest(coins=coins):
                right = plain.moved_losses_of(coins)
                told = moved_losses(Lot(coins))
                self.assertEqual(told, right)
                self.assertIs(type(told), tuple)
                self.assertEqual(moved_losses(lot=Lot(coins)), right)
                greatest = max(loss for loss in right if loss is not None)
                rests = tuple(rest for rest in range(coins[-1]) if right[rest] == greatest)
                self.assertEqual(worst_rests(Lot(coins)), (greatest, rests))
                self.assertEqual(worst_rests(lot=Lot(coins)), (greatest, rests))
                self.assertIs(type(worst_rests(Lot(coins))), tuple)

    def test_all_pairs_of_few_coins(self):
        for coins in ((1, 2), (2, 3), (3, 5), (4, 6), (2, 3, 5), (1, 4, 6), (5,)):
            high = coins[-1]
            known = {}
            for one in range(0, 40):
                for other in range(0, 40):
                    for handed in plain.all_payments(coins, one)[:6]:
                        for back in plain.all_payments(coins, other)[:6]:
                            loss = high * (sum(handed) + sum(back)) - (one - other)
                            rest = (one - other) % high
                            known[rest] = min(loss, known.get(rest, loss))
            self.assertEqual(moved_losses(Lot(coins)), tuple(known.get(rest) for rest in range(high)))

    def test_giving_back_never_loses_more(self):
        for coins in TRIED_COINS:
            for moved, handed in zip(moved_losses(Lot(coins)), losses(Lot(coins))):
                self.assertEqual(moved is None, handed is None)
                if moved is not None:
                    self.assertLessEqual(moved, handed)

    def test_known_ones(self):
        self.assertEqual(moved_losses(Lot((5, 8))), (0, 15, 6, 13, 12, 3, 18, 9))
        self.assertEqual(moved_losses(Lot((6, 10))), (0, None, 8, None, 16, None, 4, None, 12, None))
        self.assertEqual(worst_rests(Lot((6, 10))), (16, (4,)))
        self.assertEqual(worst_rests(Lot((7,))), (0, (0,)))
        self.assertEqual(worst_rests(Lot((1,))), (0, (0,)))
        self.assertEqual(moved_losses(Lot((4,))), (0, None, None, None))


if __name__ == "__main__":
    unittest.main()
