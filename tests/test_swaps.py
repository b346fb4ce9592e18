"""[10], [11]: swaps, doing them, and the way from a payment to another one."""

import functools
import itertools
import random
import unittest

from mintlots.errors import InvalidDeal, InvalidPayment, NotALot, TooMany
from mintlots.lengths import least, most
from mintlots.lots import Lot
from mintlots.payments import payments
from mintlots.singles import is_single
from mintlots.swaps import swap_at, swapped, swaps, way
from tests import plain

SWAP_COINS = ((1,), (7,), (12,), (1, 2), (2, 3), (4, 6), (1, 12), (11, 12), (5, 8), (6, 9), (8, 12), (10, 12), (1, 2, 3),
              (3, 5, 7), (2, 4, 8), (4, 6, 9), (6, 10, 12), (1, 6, 12), (7, 9, 11), (10, 11, 12), (1, 2, 3, 4),
              (1, 2, 4, 8), (2, 3, 5, 7), (3, 6, 9, 12), (2, 4, 6, 8), (4, 5, 6, 7), (1, 5, 8, 9), (5, 6, 7, 8),
              (6, 8, 9, 12), (1, 2, 3, 12), (3, 4, 10, 12), (7, 8, 9, 10))


def short_payments(coins, most):
    return [payment for payment in itertools.product(range(most + 1), repeat=len(coins)) if 1 <= sum(payment) <= most]


def within(part, payment):
    return all(few <= many for few, many in zip(part, payment))


def swaps_among(coins, found):
    """The least ones of the pairs of these payments with one sum and no coin in both, by looking at each beside all."""
    groups = {}
    for payment in found:
        groups.setdefault(plain.sum_of(coins, payment), []).append(payment)
    pairs = [(one, other) for group in groups.values() for one in group for other in group
             if not any(here and there for here, there in zip(one, other))]
    pairs.sort(key=lambda pair: sum(map(sum, pair)))
    least_pairs = []
    for one, other in pairs:
        if not any(within(left, one) and within(right, other) for left, right in least_pairs):
            least_pairs.append((one, other))
    return tuple(sorted(least_pairs))


@functools.lru_cache(maxsize=None)
def swaps_of(coins):
    """All swaps, by going through all pairs up to the bounds of [10]."""
    return swaps_among(coins, short_payments(coins, coins[-1]))


class SwapsTest(unittest.TestCase):
    def test_against_all_pairs_within_the_bounds(self):
        for coins in SWAP_COINS:
            with self.subTest(coins=coins):
                told = swaps(Lot(coins))
                self.assertEqual(told, swaps_of(coins))
                self.assertEqual(swaps(lot=Lot(coins)), told)
                self.assertIs(type(told), tuple)
                for one, other in told:
                    self.assertIn((other, one), told)
                    self.assertLessEqual(sum(one), max(coin for coin, many in zip(coins, other) if many))

    def test_there_are_none_beyond_the_bounds(self):
        for coins in ((1, 2), (2, 3), (4, 6), (1, 5), (1, 2, 3), (2, 3, 4), (3, 4, 5), (1, 3, 4), (2, 3, 5),
                      (1, 2, 3, 4), (1, 2, 3, 5)):
            with self.subTest(coins=coins):
                self.assertEqual(swaps(Lot(coins)), swaps_among(coins, short_payments(coins, 2 * coins[-1])))

    def test_one_coin_has_none(self):
        for coin in range(1, 13):
            self.assertEqual(swaps(Lot((coin,))), ())
            self.assertEqual(swap_at(Lot((coin,)), (100,)), ())

    def test_two_coins_have_two(self):
        for low, high in itertools.combinations(range(1, 13), 2):
            common = plain.gcd(low, high)
            many, few = high // common, low // common
            self.assertEqual(swaps(Lot((low, high))), (((0, few), (many, 0)), ((many, 0), (0, few))))

    def test_too_many(self):
        for coins, number in (((1, 2, 3, 4, 5), 5), (tuple(range(1, 16)), 15), ((1, 2, 3, 4, 60), 5), ((13,), 13),
                              ((60,), 60), ((1, 2, 3, 13), 13), ((11, 12, 13), 13), ((10, 20, 30, 40), 40)):
            calls = (lambda: swaps(Lot(coins)), lambda: swap_at(Lot(coins), (0,) * len(coins)),
                     lambda: way(Lot(coins), (0,) * len(coins), (0,) * len(coins)))
            for call in calls:
                with self.subTest(coins=coins), self.assertRaises(TooMany) as caught:
                    call()
                self.assertEqual(caught.exception.given, number)
        self.assertGreater(len(swaps(Lot((9, 10, 11, 12)))), 100)


def some_payments(coins, seed):
    """Payments of few and of very many coins."""
    source = random.Random(seed)
    found = [(0,) * len(coins), (1,) * len(coins), (12,) * len(coins), (10 ** 40,) * len(coins)]
    for top in (1, 2, 3, 5, 9, 13, 40, 10 ** 20):
        for _ in range(3):
            found.append(tuple(source.randint(0, top) for _ in coins))
        found.append(tuple(source.choice((0, top)) for _ in coins))
    return found


class SwapAtTest(unittest.TestCase):
    def test_those_that_are_in_the_payment(self):
        for coins in SWAP_COINS:
            known = swaps_of(coins)
            for payment in some_payments(coins, 5):
                with self.subTest(coins=coins, payment=payment):
                    right = tuple((out, put) for out, put in known if within(out, payment))
                    self.assertEqual(swap_at(Lot(coins), payment), right)
                    self.assertEqual(swap_at(payment=payment, lot=Lot(coins)), right)

    def test_all_of_them_at_a_great_payment(self):
        for coins in SWAP_COINS:
            self.assertEqual(swap_at(Lot(coins), (12,) * len(coins)), swaps(Lot(coins)))
            self.assertEqual(swap_at(Lot(coins), (0,) * len(coins)), ())

    def test_each_can_be_done(self):
        for coins in SWAP_COINS:
            for payment in some_payments(coins, 6)[::3]:
                for out, put in swap_at(Lot(coins), payment):
                    with self.subTest(coins=coins, payment=payment):
                        told = swapped(Lot(coins), payment, (out, put))
                        self.assertEqual(told, tuple(a - b + c for a, b, c in zip(payment, out, put)))
                        self.assertEqual(plain.sum_of(coins, told), plain.sum_of(coins, payment))
                        self.assertTrue(all(many >= 0 for many in told))
                        self.assertEqual(swapped(swap=(out, put), payment=payment, lot=Lot(coins)), told)
                        self.assertEqual(swapped(Lot(coins), told, (put, out)), payment)


ODD = Lot((3, 5, 7))


class SwappedErrorsTest(unittest.TestCase):
    def wrong(self, lot, payment, swap, index):
        with self.subTest(swap=swap), self.assertRaises(InvalidDeal) as caught:
            swapped(lot, payment, swap)
        if index is None:
            self.assertIsNone(caught.exception.index)
        else:
            self.assertEqual(caught.exception.index, index)

    def test_no_pair_of_payments(self):
        right = (1, 0, 1)
        for swap in ((), (right,), (right, right, right), [right, (0, 2, 0)], (list(right), (0, 2, 0)),
                     (right, [0, 2, 0]), (right, (0, 2)), (right, (0, 2, 0, 0)), ((1, 0), (0, 2, 0)),
                     (right, (0, True, 0)), ((True, 0, True), (0, 2, 0)), (right, (0, -2, 0)), (right, (0, "2", 0)),
                     (right, None), (None, right), (right, "020"), (right, (0, (2,), 0)), ({}, right), "ab", b"ab",
                     {1: 2, 3: 4}, None, True, 2, (0, 0, 0), (1, 0, 1), object(), Lot((1, 2)), (ODD, ODD)):
            self.wrong(ODD, (1, 1, 1), swap, None)
            self.wrong(Lot((3, 5, 60)), (1, 1, 1), swap, None)

    def test_no_swap_of_the_lot(self):
        for swap in (((0, 0, 0), (0, 0, 0)), ((1, 0, 0), (0, 0, 0)), ((0, 0, 0), (1, 0, 0)), ((1, 0, 0), (1, 0, 0)),
                     ((1, 0, 0), (0, 1, 0)), ((2, 0, 2), (0, 4, 0)), ((1, 1, 1), (0, 3, 0)), ((5, 0, 0), (1, 1, 1)),
                     ((1, 0, 1), (1, 0, 1)), ((10, 0, 0), (0, 6, 0)), ((6, 0, 1), (0, 5, 0)),
                     ((10 ** 99, 0, 0), (0, 10 ** 99, 0)), ((5 * 10 ** 90, 0, 0), (0, 3 * 10 ** 90, 0)),
                     ((0, 7 * 10 ** 50, 0), (0, 0, 5 * 10 ** 50))):
            self.wrong(ODD, (1, 1, 1), swap, 0)
            self.wrong(ODD, (10 ** 99, 10 ** 99, 10 ** 99), swap, 0)

    def test_out_is_not_in_the_payment(self):
        for payment, swap in (((1, 1, 0), ((1, 0, 1), (0, 2, 0))), ((0, 0, 0), ((5, 0, 0), (0, 3, 0))),
                              ((4, 9, 9), ((5, 0, 0), (0, 3, 0))), ((9, 2, 9), ((0, 3, 0), (5, 0, 0)))):
            self.wrong(ODD, payment, swap, 1)

    def test_for_all_lots(self):
        many = Lot(tuple(range(46, 61)))
        nought = (0,) * 15

        def of(**told):
            return tuple(told.get(f"c{coin}", 0) for coin in many.coins)

        right = (of(c46=1, c48=1), of(c47=2))
        self.wrong(many, nought, right, 1)
        self.wrong(many, of(c46=9, c47=9), right, 1)
        self.wrong(many, nought, (of(c46=1, c49=1), of(c47=1, c48=2)), 0)
        self.wrong(many, nought, (of(c46=2, c48=2), of(c47=4)), 0)
        self.wrong(many, nought, (of(c46=1, c47=1), of(c47=1, c46=1)), 0)
        self.wrong(many, nought, (of(c46=1), of(c46=1)), 0)
        self.wrong(many, nought, (nought, nought), 0)
        self.wrong(many, nought, (right[0], right[1][1:]), None)
        with self.assertRaises(TooMany) as caught:
            swapped(many, of(c46=1, c48=1), right)
        self.assertEqual(caught.exception.given, 15)
        with self.assertRaises(TooMany) as caught:
            swapped(Lot((10, 20, 40)), (2, 0, 0), ((2, 0, 0), (0, 1, 0)))
        self.assertEqual(caught.exception.given, 40)
        with self.assertRaises(TooMany) as caught:
            swapped(Lot((59, 60)), (60, 0), ((60, 0), (0, 59)))
        self.assertEqual(caught.exception.given, 60)
        self.wrong(Lot((59, 60)), (59, 99), ((60, 0), (0, 59)), 1)
        self.wrong(Lot((58, 60)), (99, 99), ((60, 0), (0, 58)), 0)

    def test_what_is_a_swap_of_other_lots(self):
        source = random.Random(8)
        seen = {0: 0, 1: 0}
        for coins in ((5, 9, 14, 20, 31), (13, 14, 15), (2, 3, 7, 30, 45, 60), (16, 24, 36), (10, 15, 20, 25, 30, 40)):
            short = [payment for payment in short_payments(coins, 3)]
            groups = {}
            for payment in short:
                groups.setdefault(plain.sum_of(coins, payment), []).append(payment)
            pairs = [(one, other) for group in groups.values() for one in group for other in group]
            for one, other in source.sample(pairs, min(len(pairs), 300)):
                index = 1 if self.is_least(coins, one, other) else 0
                seen[index] += 1
                self.wrong(Lot(coins), (0,) * len(coins), (one, other), index)
        self.assertGreater(min(seen.values()), 80)

    def is_least(self, coins, one, other):
        if any(here and there for here, there in zip(one, other)):
            return False
        lefts = [part for part in itertools.product(*(range(many + 1) for many in one)) if any(part)]
        rights = [part for part in itertools.product(*(range(many + 1) for many in other)) if any(part)]
        alike = [(left, right) for left in lefts for right in rights
                 if plain.sum_of(coins, left) == plain.sum_of(coins, right)]
        return alike == [(one, other)]

    def test_the_order_of_errors(self):
        with self.assertRaises(NotALot):
            swapped((3, 5, 7), (1, 1), None)
        with self.assertRaises(InvalidPayment):
            swapped(ODD, (1, 1), None)
        with self.assertRaises(TooMany) as caught:
            swapped(Lot((10, 20, 30, 40, 50)), (2, 0, 0, 0, 0), ((2, 0, 0, 0, 0), (0, 1, 0, 0, 0)))
        self.assertEqual(caught.exception.given, 5)


class WayTest(unittest.TestCase):
    def check(self, coins, payment, goal, known):
        told = way(Lot(coins), payment, goal)
        self.assertIs(type(told), tuple)
        self.assertEqual(told == (), payment == goal)
        outs = {at for out, _ in told for at, many in enumerate(out) if many}
        ins = {at for _, put in told for at, many in enumerate(put) if many}
        self.assertEqual(outs & ins, set())
        stands = payment
        for out, put in told:
            self.assertIn((out, put), known)
            self.assertTrue(within(out, payment))
            self.assertTrue(within(out, stands))
            stands = tuple(a - b + c for a, b, c in zip(stands, out, put))
        self.assertEqual(stands, goal)
        self.assertEqual(way(goal=goal, payment=payment, lot=Lot(coins)), told)

    def test_between_all_payments_of_small_sums(self):
        source = random.Random(4)
        for coins in SWAP_COINS:
            known = set(swaps_of(coins))
            for amount in (0, 6, 12, 24, 35, 60):
                found = plain.all_payments(coins, amount)
                pairs = list(itertools.product(found, repeat=2))
                for payment, goal in source.sample(pairs, min(len(pairs), 40)):
                    with self.subTest(coins=coins, payment=payment, goal=goal):
                        self.check(coins, payment, goal, known)

    def test_between_payments_of_great_sums(self):
        source = random.Random(5)
        for coins in SWAP_COINS:
            known = set(swaps_of(coins))
            for amount in (360, 2520, 3997, 4000):
                if not plain.pays(coins, amount):
                    continue
                pair = [self.some_payment(coins, amount, source) for _ in range(2)]
                with self.subTest(coins=coins, amount=amount):
                    self.check(coins, *pair, known)

    def some_payment(self, coins, amount, source):
        payment, left = [0] * len(coins), amount
        for at in source.sample(range(len(coins)), len(coins)):
            others = tuple(coin for index, coin in enumerate(coins) if index != at and payment[index] == 0)
            fitting = [many for many in range(left // coins[at] + 1) if plain.pays(others, left - many * coins[at])]
            if fitting:
                payment[at] = source.choice((fitting[0], fitting[-1], source.choice(fitting)))
                left -= payment[at] * coins[at]
            if left == 0:
                break
        if left:
            return self.some_payment(coins, amount, source)
        return tuple(payment)

    def test_known_ways(self):
        self.assertEqual(way(ODD, (5, 0, 0), (0, 3, 0)), (((5, 0, 0), (0, 3, 0)),))
        self.assertEqual(way(ODD, (1, 1, 1), (1, 1, 1)), ())
        self.assertEqual(way(Lot((1, 2)), (4000, 0), (0, 2000)), (((2, 0), (0, 1)),) * 2000)
        self.assertEqual(way(Lot((7,)), (8,), (8,)), ())

    def test_wrong_goals(self):
        for goal, index in (([0, 3, 0], None), (None, None), ((0, 3), 2), ((0, 3, 0, 0), 3), ((0, True, 0), 1),
                            ((0, 3, -1), 2), ((0, 4, 0), None), ((0, 0, 0), None), ((10 ** 30, 0, 0), None), ((), 0)):
            with self.subTest(goal=goal), self.assertRaises(InvalidPayment) as caught:
                way(ODD, (5, 0, 0), goal)
            self.assertEqual(caught.exception.index, index)

    def test_the_order_of_errors(self):
        with self.assertRaises(NotALot):
            way((3, 5, 7), (5, 0), (5, 0))
        with self.assertRaises(InvalidPayment) as caught:
            way(ODD, (5, 0), (True, 0, 0))
        self.assertEqual(caught.exception.index, 2)
        with self.assertRaises(InvalidPayment) as caught:
            way(Lot((10, 20, 30, 40, 50)), (999, 0, 0, 0, 0), (0, 999, 0, 0, 0))
        self.assertIsNone(caught.exception.index)
        for lot, payment, number in ((Lot((10, 20, 30, 40, 50)), (999, 0, 0, 0, 0), 5), (Lot((10, 20)), (999, 0), 20),
                                     (Lot((10, 12)), (999, 0), 9990), (Lot((1,)), (4001,), 4001),
                                     (Lot((3, 7)), (10 ** 50, 0), 3 * 10 ** 50)):
            with self.subTest(lot=str(lot)), self.assertRaises(TooMany) as caught:
                way(lot, payment, payment)
            self.assertEqual(caught.exception.given, number)
        self.assertEqual(way(Lot((1,)), (4000,), (4000,)), ())


class BesideOthersTest(unittest.TestCase):
    """[11]: what the swaps at a payment tell about it."""

    def test_single_and_shortest_and_longest(self):
        for coins in SWAP_COINS:
            lot = Lot(coins)
            for amount in list(range(0, 40, 3)) + [41, 60, 72]:
                known = payments(lot, amount) if plain.number_of_payments(coins, amount) <= 400 else ()
                for payment in known[:25]:
                    with self.subTest(coins=coins, payment=payment):
                        told = swap_at(lot, payment)
                        self.assertIs(is_single(lot, payment), told == ())
                        shorter = any(sum(put) < sum(out) for out, put in told)
                        self.assertEqual(sum(payment) == least(lot, amount), not shorter)
                        longer = any(sum(put) > sum(out) for out, put in told)
                        self.assertEqual(sum(payment) == most(lot, amount), not longer)


if __name__ == "__main__":
    unittest.main()
