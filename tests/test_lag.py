"""[15]: by how many coins one lot falls behind another one."""

import random
import unittest

from mintlots.lengths import lag, least
from mintlots.lots import Lot
from tests import plain
from tests.plain import TRIED_COINS, lengths_tables

TOP = 3 * plain.ALL_FROM


def some_pairs():
    source = random.Random(15)
    pairs = [((1, 7), (1, 3, 7)), ((1, 3), (1, 4)), ((59, 60), (1, 59)), ((58, 59), (1, 58)), ((60,), (59,)),
             ((7,), (7,)), ((7,), (5,)), ((5,), (7,)), ((6, 10), (4, 6, 9)), ((1, 60), (1, 59, 60)), ((1, 60), (30, 59)),
             ((4, 9), (1, 6)), ((8, 11), (1, 4, 6, 11)), ((1, 12), (1, 6, 7, 12)), ((7, 12), (3, 12)),
             ((59, 60), (57, 58)), ((2, 60), (3, 59)), ((1,), (1,)), ((2,), (1,)), ((4, 6), (3, 5)), ((20, 30), (15, 30))]
    pairs += [(coins, coins) for coins in TRIED_COINS[::9]]
    while len(pairs) < 140:
        pairs.append((source.choice(TRIED_COINS), source.choice(TRIED_COINS)))
    small = plain.some_coins(9, 60, 12)
    return pairs + [(source.choice(small), source.choice(small)) for _ in range(120)]


class LagTest(unittest.TestCase):
    def test_against_all_sums_far_beyond_the_bounds(self):
        some, none, nought = 0, 0, 0
        for one, other in some_pairs():
            with self.subTest(one=one, other=other):
                told = lag(Lot(one), Lot(other))
                self.assertEqual(lag(other=Lot(other), one=Lot(one)), told)
                if one[-1] < other[-1]:
                    none += 1
                    self.assertIsNone(told)
                    continue
                here, there = lengths_tables(one, TOP)[0], lengths_tables(other, TOP)[0]
                found = [(a - b, -at) for at, (a, b) in enumerate(zip(here, there)) if a is not None and b is not None]
                number, at = max(found)
                right = (number, -at) if number > 0 else (0, 0)
                self.assertEqual(told, right)
                self.assertIs(type(told), tuple)
                some += number > 0
                nought += number == 0
        self.assertGreater(min(some, none, nought), 15)

    def test_without_end_the_differences_grow(self):
        for one, other in (((1, 3), (1, 4)), ((58, 59), (7, 60)), ((5,), (7,)), ((1, 2, 3), (1, 2, 3, 4))):
            self.assertIsNone(lag(Lot(one), Lot(other)))
            sums = [one[-1] * other[-1] * at for at in (1, 10, 1000, 10 ** 20)]
            ahead = [least(Lot(one), amount) - least(Lot(other), amount) for amount in sums]
            self.assertEqual(ahead, sorted(set(ahead)))

    def test_never_behind(self):
        for coins in TRIED_COINS:
            self.assertEqual(lag(Lot(coins), Lot(coins)), (0, 0))
            self.assertEqual(lag(Lot(coins), Lot(coins[-1:])), (0, 0))
        self.assertEqual(lag(Lot((1, 3, 7)), Lot((1, 7))), (0, 0))

    def test_known_lags(self):
        self.assertEqual(lag(Lot((1, 7)), Lot((1, 3, 7))), (4, 6))
        self.assertEqual(lag(Lot((1, 60)), Lot((59, 60))), (58, 59))
        # Behind the bound of the first lot and the multiple of 12.
        self.assertEqual(lag(Lot((1, 12)), Lot((1, 6, 7, 12))), (8, 35))


if __name__ == "__main__":
    unittest.main()
