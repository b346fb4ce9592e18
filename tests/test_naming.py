"""[23], [24]: who wins, by which names, when the game ends, and what is quiet."""

import random
import unittest
from math import gcd

from mintlots.errors import InvalidNames, NoEnd, NotALot, NotAStand
from mintlots.lots import Lot, lean
from mintlots.naming import end, game, good_names, is_quiet, is_won, named
from tests import plain, plain_stands
from tests.plain_stands import behind, coins_missing, end_of, wins

SUMS = plain_stands.tried_stands()


def with_needless(coins, source):
    """The coins with some needless ones."""
    needless = [coin for coin in range(1, 61) if coin not in coins and plain.pays(coins, coin)]
    return tuple(sorted(coins + tuple(source.sample(needless, min(len(needless), 15 - len(coins), 3)))))


class WonTest(unittest.TestCase):
    def test_there_are_enough_stands(self):
        self.assertEqual({len(sums) for sums in SUMS}, set(range(15)))
        self.assertIn(1, {wins(sums) for sums in SUMS})
        self.assertGreater(len([sums for sums in SUMS if not wins(sums)]), 50)
        self.assertEqual(max(max(sums) for sums in plain_stands.stands_missing(14)), 27)

    def test_by_going_through_all_names(self):
        for sums in SUMS:
            stand = Lot(coins_missing(sums))
            with self.subTest(stand=str(stand)):
                self.assertEqual(plain.missed_of(stand.coins), sums)
                self.assertIs(is_won(stand), wins(sums))
                good = tuple(name for name in sums if not wins(behind(sums, name)))
                self.assertEqual(good_names(stand), good)
                self.assertEqual(end(stand), end_of(sums))

    def test_lots_that_pay_the_same_sums_are_played_alike(self):
        source = random.Random(5)
        for sums in SUMS:
            coins = coins_missing(sums)
            other = Lot(with_needless(coins, source))
            with self.subTest(stand=str(other)):
                for call in (is_won, good_names, end, game, is_quiet):
                    self.assertEqual(call(other), call(Lot(coins)))
                self.assertEqual(named(other, ()), Lot(coins))

    def test_two_coins(self):
        seen = 0
        for one in range(2, 40):
            for other in range(one + 1, 61):
                if gcd(one, other) == 1 and (one - 1) * (other - 1) // 2 <= 14:
                    seen += 1
                    self.assertIs(is_won(Lot((one, other))), (one, other) != (2, 3), (one, other))
                    self.assertIs(is_quiet(Lot((one, other))), (one, other) != (2, 3), (one, other))
        self.assertEqual(seen, 28)

    def test_with_the_coin_one(self):
        for coins in ((1,), (1, 2), (1, 5), (1, 60), tuple(range(1, 16))):
            stand = Lot(coins)
            self.assertIs(is_won(stand), True)
            self.assertEqual((good_names(stand), end(stand), game(stand), is_quiet(stand)), ((), 0, (), False))
            self.assertEqual(named(stand, ()), Lot((1,)))

    def test_known_stands(self):
        self.assertIs(is_won(Lot((2, 3))), False)
        self.assertEqual((good_names(Lot((2, 3))), end(Lot((2, 3))), game(Lot((2, 3)))), ((), 1, (1,)))
        self.assertEqual(good_names(stand=Lot((4, 5))), (11,))
        self.assertEqual((end(stand=Lot((3, 4, 5))), game(stand=Lot((3, 4, 5)))), (2, (2, 1)))
        self.assertIs(is_won(stand=Lot((2, 29))), True)
        self.assertIs(is_quiet(stand=Lot((4, 5, 7))), True)


class GameTest(unittest.TestCase):
    def test_each_name_is_the_least_one_that_keeps_to_the_end(self):
        for sums in SUMS:
            names = game(Lot(coins_missing(sums)))
            with self.subTest(sums=sums):
                self.assertIs(type(names), tuple)
                self.assertEqual(len(names), end_of(sums))
                self.check_game(sums, names)

    def check_game(self, sums, names):
        for name in names:
            self.assertIn(name, sums)
            then = behind(sums, name)
            self.assertNotEqual(wins(then), wins(sums))
            for less in sums[:sums.index(name)]:
                other = behind(sums, less)
                self.assertFalse(wins(other) != wins(sums) and end_of(other) == end_of(sums) - 1)
            self.assertEqual(end_of(then), end_of(sums) - 1)
            sums = then
        self.assertEqual(sums, ())
        self.assertEqual(names[-1:], (1,) if names else ())

    def test_who_wins_moves_at_odd_ends(self):
        for sums in SUMS:
            if sums:
                self.assertIs(end(Lot(coins_missing(sums))) % 2 == 0, wins(sums))


class QuietTest(unittest.TestCase):
    def test_against_each_missed_sum(self):
        quiet = 0
        for sums in SUMS:
            known = bool(sums) and sums[-1] != 1 and all(sums[-1] not in behind(sums, name) for name in sums[:-1])
            stand = Lot(coins_missing(sums))
            with self.subTest(stand=str(stand)):
                self.assertIs(is_quiet(stand), known)
                if known:
                    quiet += 1
                    self.assertIs(is_won(stand), True)
        self.assertGreater(quiet, 40)
        self.assertLess(quiet, len(SUMS) - 50)

    def test_one_of_each_pair_is_paid(self):
        seen = 0
        for sums in SUMS:
            if sums and all((amount in sums) != (sums[-1] - amount in sums) for amount in range(sums[-1] + 1)):
                seen += 1
                self.assertIs(is_quiet(Lot(coins_missing(sums))), sums != (1,))
        self.assertGreater(seen, 15)


class NamedTest(unittest.TestCase):
    def test_one_name_after_the_other(self):
        source = random.Random(9)
        for sums in SUMS:
            coins = with_needless(coins_missing(sums), source)
            names = ()
            left = sums
            while True:
                lot = named(Lot(coins), names)
                self.assertEqual(lot.coins, coins_missing(left))
                self.assertEqual(lot, lean(lot))
                if not left:
                    break
                name = source.choice(left)
                names += (name,)
                left = behind(left, name)

    def test_the_first_name_that_is_not_missed_then(self):
        stand = Lot((4, 6, 9))
        for names, index in (((4,), 0), ((5, 5), 1), ((5, 10), 1), ((11, 5, 7, 11), 3), ((0,), 0), ((5, 0), 1),
                             ((5, -3), 1), ((5, True), 1), ((5, None), 1), ((5, "7"), 1), ((1, 2), 1), ((1, 1), 1),
                             ((5, 7, (2,)), 2), ((10 ** 99,), 0), ((2, 11, 3), 1), ((5, [3], 4), 1)):
            with self.subTest(names=names), self.assertRaises(InvalidNames) as caught:
                named(stand, names)
            self.assertEqual(caught.exception.index, index)
        for names in (None, [], [5], 5, "5", {5: 5}, True, Lot((5,))):
            with self.subTest(names=names), self.assertRaises(InvalidNames) as caught:
                named(stand, names)
            self.assertIsNone(caught.exception.index)

    def test_all_lots_know_wrong_names(self):
        source = random.Random(3)
        for coins in plain.TRIED_COINS:
            known = coins
            names = []
            for _ in range(6):
                misses = [amount for amount in range(1, 300) if not plain.pays(tuple(sorted(known)), amount)]
                if not misses:
                    break
                names.append(source.choice(misses))
                known = tuple(sorted(known + (names[-1],)))
            for at in range(len(names) + 1):
                wrong = names[:at] + [source.choice((0, -at, 60 * coins[0], coins[0], names[0] if at else 0))]
                with self.assertRaises(InvalidNames) as caught:
                    named(Lot(coins), tuple(wrong + names[at:]))
                self.assertEqual(caught.exception.index, at)

    def test_names_that_no_coin_can_be(self):
        for coins, names, given in (((6, 10), (10 ** 40 + 1, 10 ** 40 + 3, 61), 2), ((60,), (90, 120 + 1), 60), ((7,), (), 7)):
            with self.assertRaises(NoEnd) as caught:
                named(Lot(coins), names)
            self.assertEqual(caught.exception.given, given)
        with self.assertRaises(InvalidNames) as caught:
            named(Lot((6, 10)), (61, 10 ** 40 + 1))
        self.assertEqual(caught.exception.index, 1)
        with self.assertRaises(NotAStand) as caught:
            named(Lot((59, 60)), (3421, 61, 62))
        self.assertEqual(caught.exception.given, 58 * 59 // 2)


class RefusedTest(unittest.TestCase):
    def test_what_is_no_stand(self):
        calls = (is_won, good_names, end, game, is_quiet, lambda stand: named(stand, ()))
        for coins in plain.TRIED_COINS + ((4, 11), (5, 8), (3, 17), (2, 31), (15, 17), tuple(range(16, 31))):
            lot = Lot(coins)
            divisor = plain.common_divisor(coins)
            number = None if divisor > 1 else len(plain.missed_of(coins))
            if divisor == 1 and number <= 14:
                continue
            for call in calls:
                with self.assertRaises(NoEnd if divisor > 1 else NotAStand) as caught:
                    call(lot)
                self.assertEqual(caught.exception.given, divisor if divisor > 1 else number)

    def test_the_edge(self):
        self.assertEqual(len(plain.missed_of((5, 8))), 14)
        self.assertIs(is_won(Lot((5, 8))), True)
        self.assertIs(is_won(Lot((2, 29))), True)
        self.assertIs(is_won(Lot((3, 16, 17))), wins(plain.missed_of((3, 16, 17))))
        for coins in ((2, 31), (4, 11)):
            with self.assertRaises(NotAStand) as caught:
                is_won(Lot(coins))
            self.assertEqual(caught.exception.given, 15)

    def test_the_order_of_the_errors(self):
        with self.assertRaises(NotALot):
            named((5, 8), None)
        for lot in (Lot((6, 10)), Lot((59, 60))):
            for names, index in ((None, None), ((0,), 0), ((7, lot.coins[0]), 1)):
                with self.assertRaises(InvalidNames) as caught:
                    named(lot, names)
                self.assertEqual(caught.exception.index, index)
        with self.assertRaises(NoEnd) as caught:
            named(Lot((56, 60)), (1,))
        self.assertEqual(caught.exception.given, 4)
        with self.assertRaises(NotAStand):
            named(names=(1,), stand=Lot((59, 60)))


if __name__ == "__main__":
    unittest.main()
