"""[26]: coins called in and struck, kept lots and orders, and what must be struck."""

import itertools
import math
import random
import unittest

from mintlots.calls import called_in, calling_orders, gained_sums, kept_lots, lost_sums, strikes, struck
from mintlots.errors import (InvalidAmounts, InvalidCoin, InvalidNumber, Missed, NoEnd, NoSuchCoin, NotALot, TooMany,
                             WrongName)
from mintlots.lots import Lot
from tests import plain, plain_stands

# Lots whose coins can be called in by all orders.
SHORT = [coins for coins in plain.EDGE_COINS + tuple(plain.some_coins(26, 120, 30)) if len(coins) <= 6]


def without(coins, coin):
    return tuple(other for other in coins if other != coin)


def unlike(fewer, more):
    """The sums that just the second coins pay, by going through all sums up to the one from where both pay alike."""
    return tuple(amount for amount in range(plain.ALL_FROM) if plain.pays(more, amount) > plain.pays(fewer, amount))


class CalledTest(unittest.TestCase):
    def test_the_lot_without_the_coin(self):
        for coins in plain.TRIED_COINS:
            lot = Lot(coins)
            for coin in coins:
                if len(coins) == 1:
                    for call in (called_in, lost_sums):
                        with self.assertRaises(NoEnd) as caught:
                            call(lot, coin)
                        self.assertEqual(caught.exception.given, coin)
                    continue
                left = called_in(lot, coin)
                self.assertIs(type(left), Lot)
                self.assertEqual(left.coins, without(coins, coin))
            self.assertEqual(lot.coins, coins)

    def test_what_is_lost(self):
        infinite = 0
        for coins in plain.TRIED_COINS:
            for coin in coins if len(coins) > 1 else ():
                left = without(coins, coin)
                divisor = plain.common_divisor(left)
                with self.subTest(coins=coins, coin=coin):
                    if divisor == plain.common_divisor(coins):
                        self.assertEqual(lost_sums(Lot(coins), coin), unlike(left, coins))
                        continue
                    infinite += 1
                    with self.assertRaises(NoEnd) as caught:
                        lost_sums(Lot(coins), coin)
                    self.assertEqual(caught.exception.given, divisor)
        self.assertGreater(infinite, 20)

    def test_needless_coins(self):
        for coins, coin in (((3, 5, 7, 10), 10), ((1, 2), 2), ((4, 6, 10), 10), ((1, 60), 60), ((2, 30, 60), 30)):
            self.assertEqual(lost_sums(Lot(coins), coin), ())
            self.assertEqual(gained_sums(Lot(without(coins, coin)), coin), ())

    def test_no_coin_of_the_lot(self):
        for coin in (4, 0, -3, 60, 10 ** 99, None, True, "3", (3,), [3], {3: 3}, Lot((3,)), object()):
            for call in (called_in, lost_sums):
                for lot in (Lot((3, 5, 7)), Lot((8,))):
                    with self.assertRaises(NoSuchCoin) as caught:
                        call(lot, coin)
                    self.assertIs(caught.exception.given, coin)
        with self.assertRaises(NoSuchCoin):
            called_in(Lot((1, 2)), True)
        with self.assertRaises(WrongName):
            called_in(Lot((1,)), True)

    def test_known_answers(self):
        odd = Lot((3, 5, 7))
        self.assertEqual(str(called_in(coin=5, lot=odd)), "3 7")
        self.assertEqual(lost_sums(coin=7, lot=odd), (7,))
        self.assertEqual(lost_sums(Lot((1, 60)), 60), ())
        with self.assertRaises(NoEnd) as caught:
            lost_sums(Lot((1, 60)), 1)
        self.assertEqual(caught.exception.given, 60)


class StruckTest(unittest.TestCase):
    def test_the_lot_with_the_coin(self):
        for coins in plain.TRIED_COINS:
            lot = Lot(coins)
            for coin in range(1, 61):
                if coin in coins:
                    self.assertEqual(struck(lot, coin), lot)
                elif len(coins) == 15:
                    for call in (struck, gained_sums):
                        with self.assertRaises(TooMany) as caught:
                            call(lot, coin)
                        self.assertEqual(caught.exception.given, 16)
                else:
                    self.assertEqual(struck(lot, coin).coins, tuple(sorted(coins + (coin,))))
            self.assertEqual(lot.coins, coins)

    def test_what_is_gained(self):
        source = random.Random(2)
        infinite = 0
        for coins in plain.TRIED_COINS:
            for coin in source.sample(range(1, 61), 6):
                more = tuple(sorted(set(coins + (coin,))))
                if len(more) > 15:
                    continue
                with self.subTest(coins=coins, coin=coin):
                    if plain.common_divisor(more) == plain.common_divisor(coins):
                        self.assertEqual(gained_sums(Lot(coins), coin), unlike(coins, more))
                        continue
                    infinite += 1
                    with self.assertRaises(NoEnd) as caught:
                        gained_sums(Lot(coins), coin)
                    self.assertEqual(caught.exception.given, plain.common_divisor(coins))
        self.assertGreater(infinite, 20)

    def test_a_coin_that_the_lot_has(self):
        for coins in ((7,), (6, 10), (3, 5, 7), tuple(range(1, 16)), tuple(range(46, 61))):
            lot = Lot(coins)
            for coin in coins:
                self.assertIs(struck(lot, coin), lot)
                self.assertEqual(gained_sums(lot, coin), ())

    def test_no_coin(self):
        full = Lot(tuple(range(1, 16)))
        for coin in (0, -1, 61, 10 ** 99, None, True, False, "5", (5,), [5], Lot((5,)), object()):
            for call in (struck, gained_sums):
                for lot in (Lot((3, 5, 7)), full):
                    with self.assertRaises(InvalidCoin) as caught:
                        call(lot, coin)
                    self.assertIs(caught.exception.given, coin)

    def test_known_answers(self):
        self.assertEqual(gained_sums(coin=7, lot=Lot((5, 8))), (7, 12, 14, 17, 19, 22, 27))
        self.assertEqual(str(struck(coin=60, lot=Lot((5, 8)))), "5 8 60")

    def test_called_in_and_struck(self):
        for coins in plain.TRIED_COINS:
            for coin in coins if len(coins) > 1 else ():
                left = called_in(Lot(coins), coin)
                self.assertEqual(struck(left, coin), Lot(coins))
                if plain.common_divisor(left.coins) == plain.common_divisor(coins):
                    self.assertEqual(gained_sums(left, coin), lost_sums(Lot(coins), coin))


class KeptTest(unittest.TestCase):
    def some_amounts(self, coins, source):
        """A few ascending sums that the coins pay."""
        paid = [amount for amount in range(0, source.choice((20, 60, 401))) if plain.pays(coins, amount)]
        return tuple(sorted(source.sample(paid, min(len(paid), source.randint(0, 4)))))

    def test_all_orders(self):
        source = random.Random(6)
        for coins in SHORT * 2:
            amounts = self.some_amounts(coins, source)
            ends = plain_stands.calling_ends(coins, amounts)
            with self.subTest(coins=coins, amounts=amounts):
                self.assertEqual(kept_lots(Lot(coins), amounts), tuple(sorted(set(ends))))
                self.assertEqual(calling_orders(Lot(coins), amounts), len(ends))

    def test_all_lots_of_some_coins(self):
        source = random.Random(7)
        for coins in plain.some_coins(27, 40, 40):
            coins = coins[:8]
            amounts = self.some_amounts(coins, source)
            paying = [some for some in plain_stands.some_of(coins) if all(plain.pays(some, one) for one in amounts)]
            known = [some for some in paying if not any(without(some, coin) in paying for coin in some)]
            self.assertEqual(kept_lots(Lot(coins), amounts), tuple(sorted(known)), (coins, amounts))

    def test_no_sums_and_nothing(self):
        for coins in SHORT + [tuple(range(2, 10))]:
            for amounts in ((), (0,)):
                self.assertEqual(kept_lots(Lot(coins), amounts), tuple((coin,) for coin in coins))
                self.assertEqual(calling_orders(Lot(coins), amounts), math.factorial(len(coins)))

    def test_none_can_be_called_in(self):
        for coins, amounts in (((3, 5, 7), (3, 5, 7)), ((60,), (60, 120)), ((2, 3), (2, 3)), ((5, 8), (13,))):
            self.assertEqual(kept_lots(amounts=amounts, lot=Lot(coins)), (coins,))
            self.assertEqual(calling_orders(amounts=amounts, lot=Lot(coins)), 1)

    def refused(self, lot, amounts, error, value):
        for call in (kept_lots, calling_orders):
            with self.assertRaises(error) as caught:
                call(lot, amounts)
            self.assertEqual(list(vars(caught.exception).values()), [value])

    def test_wrong_amounts(self):
        for lot in (Lot((5, 8)), Lot(tuple(range(46, 61)))):
            for amounts in (None, [], [5], 5, "5", {}, True, Lot((5,)), object()):
                self.refused(lot, amounts, InvalidAmounts, None)
            for amounts, index in (((-1,), 0), ((401,), 0), ((5, 5), 1), ((5, 4), 1), ((5, None), 1), ((True,), 0),
                                   ((0, True), 1), ((0, "5"), 1), ((0, 5, 401), 2), ((0, (5,)), 1), ((0, [], 3), 1),
                                   (tuple(range(13)), 12), (tuple(range(400)), 12), ((0, 10 ** 99), 1),
                                   (tuple(range(12)) + (3,), 12), ((5, 8, 7, 6), 2)):
                self.refused(lot, amounts, InvalidAmounts, index)

    def test_the_order_of_the_errors(self):
        many = Lot((2, 4, 6, 8, 10, 12, 14, 16, 18))
        self.refused(many, (2, 3, 5), Missed, 3)
        self.refused(many, (2, 3, 3), InvalidAmounts, 2)
        self.refused(many, (2, 4), TooMany, 9)
        self.refused(Lot(tuple(range(1, 16))), (), TooMany, 15)
        self.refused(Lot((5, 8)), (8, 11, 12), Missed, 11)
        self.refused((5, 8), (8, 8), NotALot, (5, 8))
        self.assertEqual(kept_lots(Lot((2, 4, 6, 8, 10, 12, 14, 16)), (2,)), ((2,),))

    def test_the_limits(self):
        self.assertEqual(kept_lots(Lot((1, 400 // 8)), (0, 400)), ((1,), (50,)))
        amounts = tuple(range(389, 401))
        self.assertEqual(kept_lots(Lot((5, 8, 13)), amounts),
                         tuple(sorted(set(plain_stands.calling_ends((5, 8, 13), amounts)))))

    def test_known_answers(self):
        self.assertEqual(kept_lots(Lot((1, 2, 3, 6)), (5, 6)), ((1,), (2, 3)))
        self.assertEqual(calling_orders(Lot((1, 2, 3, 6)), (5, 6)), 8)


class StrikesTest(unittest.TestCase):
    def fewest(self, coins, least, start, most):
        """How many coins must be struck, found by trying all coins below twice the start, with no more than `most`."""
        free = [coin for coin in range(least, 2 * start + 1) if coin not in coins]
        for number in range(most + 1):
            for chosen in itertools.combinations(free, number):
                if self.serves(coins + chosen, start):
                    return number
        return most + 1

    def serves(self, coins, start):
        known = tuple(sorted(coins))
        return all(plain.pays(known, amount) for amount in range(start, start + max(60, known[0])))

    def test_as_few_as_can_be(self):
        source = random.Random(8)
        tried = [(coins, least, start) for coins in ((1,), (2,), (5,), (60,), (2, 3), (3, 7), (4, 6), (5, 8), (7, 11),
                                                     (6, 10, 15), tuple(range(46, 61)), tuple(range(4, 61, 4)))
                 for start in range(1, 8) for least in range(1, start + 1)]
        for coins in plain.TRIED_COINS:
            start = source.randint(1, 10)
            tried.append((coins, source.randint(1, start), start))
        for coins, least, start in tried:
            told = strikes(Lot(coins), least, start)
            with self.subTest(coins=coins, least=least, start=start, told=told):
                self.assertIs(type(told), tuple)
                self.assertTrue(all(coin not in coins and least <= coin <= 60 for coin in told))
                self.assertEqual(told, tuple(sorted(set(told))))
                self.assertTrue(self.serves(coins + told, start))
                # None fewer serve; where they would be too many to try, only lists of few coins are tried.
                most = min(len(told) - 1, 4 if start < 8 else 3)
                self.assertEqual(self.fewest(coins, least, start, most), most + 1)

    def test_nothing_to_strike(self):
        for coins, least, start in (((1,), 1, 1), ((1, 60), 10, 10), ((2, 3), 2, 2), ((3, 5, 7), 1, 5), ((4, 5, 6, 7), 4, 4),
                                    ((2, 9), 1, 8), ((5, 6, 7, 8, 9), 1, 10), (tuple(range(1, 16)), 3, 4)):
            self.assertEqual(strikes(Lot(coins), least, start), ())

    def test_fifteen_coins(self):
        lot = Lot(tuple(range(46, 61)))
        self.assertEqual(strikes(lot, 1, 1), (1,))
        self.assertEqual(strikes(lot, 10, 10), tuple(range(10, 20)))
        self.assertEqual(strikes(lot, 2, 2), (2, 3))
        self.assertEqual(lot.coins, tuple(range(46, 61)))

    def test_wrong_numbers(self):
        for least in (0, 11, -1, True, None, "1", (1,), 10 ** 99):
            with self.assertRaises(InvalidNumber) as caught:
                strikes(Lot((5,)), least, None)
            self.assertIs(caught.exception.given, least)
        for start in (0, 3, 11, -1, True, None, "5", (5,), 10 ** 99):
            with self.assertRaises(InvalidNumber) as caught:
                strikes(Lot((5,)), 4, start)
            self.assertIs(caught.exception.given, start)
        with self.assertRaises(NotALot):
            strikes((5,), 0, 0)
        self.assertEqual(strikes(start=10, least=10, lot=Lot((5,))), (11, 12, 13, 14))

    def test_known_answers(self):
        self.assertEqual(strikes(Lot((5,)), 4, 6), (4, 6, 7))


if __name__ == "__main__":
    unittest.main()
