"""[6], [7]: what lots pay and miss."""

import unittest

from mintlots.errors import NoEnd, NoSuchCoin, TooMany
from mintlots.lots import (Lot, count_missed, divisor, first_unlike, is_paid, is_within, joined, last_missed, lean,
                           least_sums, missed, pay_alike)
from tests import plain
from tests.plain import TRIED_COINS, TRIED_LOTS

MOST = 10 ** 30


class DivisorAndLeanTest(unittest.TestCase):
    def test_divisor(self):
        for lot in TRIED_LOTS:
            with self.subTest(lot=str(lot)):
                self.assertEqual(divisor(lot), plain.common_divisor(lot.coins))
                self.assertEqual(divisor(lot=lot), divisor(lot))

    def test_divisors_of_one_to_fifteen_coins(self):
        self.assertEqual({len(coins) for coins in TRIED_COINS}, set(range(1, 16)))
        self.assertEqual([divisor(Lot((coin,))) for coin in range(1, 61)], list(range(1, 61)))
        self.assertEqual(divisor(Lot((6, 10, 15))), 1)
        self.assertEqual(divisor(Lot(tuple(range(4, 61, 4)))), 4)

    def test_lean(self):
        for lot in TRIED_LOTS:
            with self.subTest(lot=str(lot)):
                self.assertIs(type(lean(lot)), Lot)
                self.assertEqual(lean(lot).coins, plain.lean_of(lot.coins))
                self.assertEqual(lean(lot=lot), lean(lot))
                self.assertEqual(lean(lean(lot)), lean(lot))

    def test_lean_of_known_lots(self):
        for told, kept in (((1, 2, 60), (1,)), ((2, 4, 6, 59, 60), (2, 59)), ((4, 6, 8, 10, 13), (4, 6, 13)),
                           (tuple(range(30, 45)), tuple(range(30, 45))), ((20, 30, 45, 50), (20, 30, 45)),
                           ((7, 60), (7, 60)), ((6, 10, 15, 31), (6, 10, 15))):
            self.assertEqual(lean(Lot(told)).coins, kept)

    def test_a_lot_stays_as_it_was(self):
        lot = Lot((4, 6, 8, 10, 13))
        for call in (lean, divisor, missed, lambda one: joined(one, Lot((2,))), lambda one: least_sums(one, 8)):
            call(lot)
            self.assertEqual(lot.coins, (4, 6, 8, 10, 13))


class PaidTest(unittest.TestCase):
    def test_least_sums(self):
        for lot in TRIED_LOTS:
            for coin in lot.coins:
                with self.subTest(lot=str(lot), coin=coin):
                    self.assertEqual(least_sums(lot, coin), plain.least_sums_of(lot.coins, coin))
                    self.assertEqual(least_sums(coin=coin, lot=lot), least_sums(lot, coin))

    def test_least_sums_of_known_lots(self):
        self.assertEqual(least_sums(Lot((1, 7)), 1), (0,))
        self.assertEqual(least_sums(Lot((6,)), 6), (0, None, None, None, None, None))
        self.assertEqual(least_sums(Lot((4, 6)), 4), (0, None, 6, None))
        self.assertEqual(least_sums(Lot((4, 6)), 6), (0, None, 8, None, 4, None))
        self.assertEqual(max(least_sums(Lot((59, 60)), 60)), 59 * 59)

    def test_no_such_coin(self):
        for coin in (0, 1, 4, 6, 13, -5, 40, 10 ** 30, None, True, False, "5", b"5", [], [5], (), (5,), {}, {5: 5},
                     {5}, object(), Lot((5,)), Lot):
            with self.subTest(coin=coin), self.assertRaises(NoSuchCoin) as caught:
                least_sums(Lot((5, 8)), coin)
            self.assertIs(caught.exception.given, coin)
        with self.assertRaises(NoSuchCoin) as caught:
            least_sums(Lot((1, 2)), True)
        self.assertIs(caught.exception.given, True)

    def test_all_small_sums(self):
        for lot in TRIED_LOTS:
            table = plain.paid_table(lot.coins)
            top = 500 if len(lot.coins) > 2 else 3700
            told = [is_paid(lot, amount) for amount in range(top)]
            with self.subTest(lot=str(lot)):
                self.assertEqual(told, table[:top])
                self.assertEqual({type(value) for value in told}, {bool})

    def test_great_sums(self):
        for lot in TRIED_LOTS:
            for start in (4000, 10 ** 9, 10 ** 18 - 30, 10 ** 29 + 1, MOST - 61):
                for amount in range(start, start + 62):
                    told = is_paid(lot, amount)
                    if told != plain.pays(lot.coins, amount):
                        self.fail((str(lot), amount, told))
        self.assertIs(is_paid(amount=MOST, lot=Lot((59, 60))), True)
        self.assertIs(is_paid(Lot((60,)), MOST), False)
        self.assertIs(is_paid(Lot((50,)), MOST), True)

    def test_nought_is_paid(self):
        for lot in TRIED_LOTS:
            self.assertIs(is_paid(lot, 0), True)


class MissedTest(unittest.TestCase):
    def test_all_missed_sums(self):
        seen = 0
        for lot in TRIED_LOTS:
            if plain.common_divisor(lot.coins) > 1:
                continue
            seen += 1
            with self.subTest(lot=str(lot)):
                right = plain.missed_of(lot.coins)
                self.assertEqual(missed(lot), right)
                self.assertEqual(missed(lot=lot), right)
                self.assertEqual(count_missed(lot), len(right))
                self.assertEqual(count_missed(lot=lot), len(right))
                self.assertEqual(last_missed(lot), right[-1] if right else None)
                self.assertEqual(last_missed(lot=lot), last_missed(lot))
        self.assertGreater(seen, 50)

    def test_nothing_is_missed(self):
        for coins in ((1,), (1, 2), (1, 60), tuple(range(1, 16))):
            self.assertEqual(missed(Lot(coins)), ())
            self.assertEqual(count_missed(Lot(coins)), 0)
            self.assertIsNone(last_missed(Lot(coins)))

    def test_just_one_is_missed(self):
        self.assertEqual(missed(Lot((2, 3))), (1,))
        self.assertEqual(count_missed(Lot((2, 3))), 1)
        self.assertEqual(last_missed(Lot((2, 3))), 1)

    def test_two_coins(self):
        for low in range(2, 61):
            for high in range(low + 1, 61):
                if plain.common_divisor((low, high)) == 1:
                    lot = Lot((low, high))
                    self.assertEqual(count_missed(lot), (low - 1) * (high - 1) // 2)
                    self.assertEqual(last_missed(lot), low * high - low - high)
                    self.assertEqual(len(missed(lot)), count_missed(lot))

    def test_no_end(self):
        for lot in TRIED_LOTS:
            common = plain.common_divisor(lot.coins)
            if common == 1:
                continue
            for call in (missed, count_missed, last_missed):
                with self.subTest(lot=str(lot), call=call), self.assertRaises(NoEnd) as caught:
                    call(lot)
                self.assertEqual(caught.exception.given, common)
                self.assertIs(type(caught.exception.given), int)


class TwoLotsTest(unittest.TestCase):
    pairs = [(one, other) for one in TRIED_COINS[::2] for other in TRIED_COINS[::3]]
    pairs += [(coins, plain.lean_of(coins)) for coins in TRIED_COINS]
    pairs += [((4, 6), (4, 6, 10)), ((2, 3), (2, 3, 60)), ((5, 8), (5, 8, 27)), ((5, 8), (5, 8, 28)), ((2,), (4,))]

    def test_both_ways_round(self):
        for one, other in self.pairs:
            first = plain.paid_table(one)
            second = plain.paid_table(other)
            unlike = next((at for at in range(len(first)) if first[at] != second[at]), None)
            with self.subTest(one=one, other=other):
                left, right = Lot(one), Lot(other)
                self.assertEqual(first_unlike(left, right), unlike)
                self.assertEqual(first_unlike(right, left), unlike)
                self.assertIs(pay_alike(left, right), unlike is None)
                self.assertIs(pay_alike(right, left), unlike is None)

    def test_within(self):
        for one, other in self.pairs:
            first = plain.paid_table(one)
            second = plain.paid_table(other)
            within = not any(here and not there for here, there in zip(first, second))
            with self.subTest(one=one, other=other):
                self.assertIs(is_within(Lot(one), Lot(other)), within)

    def test_within_is_not_the_same_both_ways(self):
        self.assertIs(is_within(Lot((4,)), Lot((2,))), True)
        self.assertIs(is_within(Lot((2,)), Lot((4,))), False)
        self.assertIs(is_within(Lot((13, 16, 60)), Lot((5, 8))), True)
        self.assertIs(is_within(Lot((13, 16, 27)), Lot((5, 8))), False)

    def test_joined(self):
        many = 0
        for one, other in self.pairs:
            right = plain.lean_of(tuple(sorted(set(one + other))))
            for first, second in ((one, other), (other, one)):
                with self.subTest(one=first, other=second):
                    if len(right) <= 15:
                        self.assertEqual(joined(Lot(first), Lot(second)).coins, right)
                        continue
                    many += 1
                    with self.assertRaises(TooMany) as caught:
                        joined(Lot(first), Lot(second))
                    self.assertEqual(caught.exception.given, len(right))
        self.assertGreater(many, 0)

    def test_joined_at_the_edge(self):
        low = Lot(tuple(range(30, 40)))
        self.assertEqual(joined(low, Lot(tuple(range(40, 45)))).coins, tuple(range(30, 45)))
        self.assertEqual(joined(low, Lot(tuple(range(36, 45)))).coins, tuple(range(30, 45)))
        self.assertEqual(joined(low, Lot(tuple(range(40, 45)) + (60,))).coins, tuple(range(30, 45)))
        for high, number in ((range(40, 46), 16), (range(45, 60), 25), (range(40, 55), 25)):
            with self.assertRaises(TooMany) as caught:
                joined(low, Lot(tuple(high)))
            self.assertEqual(caught.exception.given, number)
        with self.assertRaises(TooMany) as caught:
            joined(Lot(tuple(range(30, 45))), Lot(tuple(range(45, 60))))
        self.assertEqual(caught.exception.given, 30)
        self.assertEqual(joined(Lot(tuple(range(16, 31))), Lot((1,))).coins, (1,))

    def test_by_name(self):
        few, odd = Lot((5, 8)), Lot((3, 5, 7))
        self.assertIs(pay_alike(other=few, one=odd), False)
        self.assertEqual(first_unlike(other=few, one=odd), 3)
        self.assertIs(is_within(other=odd, one=few), True)
        self.assertIs(is_within(other=few, one=odd), False)
        self.assertEqual(joined(other=few, one=odd), odd)

    def test_a_lot_and_itself(self):
        for lot in TRIED_LOTS:
            self.assertIs(pay_alike(lot, lot), True)
            self.assertIsNone(first_unlike(lot, lot))
            self.assertIs(is_within(lot, lot), True)
            self.assertEqual(joined(lot, lot), lean(lot))


if __name__ == "__main__":
    unittest.main()
