"""[6], [8]: payments of small sums, counted, listed and placed."""

import unittest

from mintlots.errors import InvalidNumber, InvalidPayment, TooMany
from mintlots.lots import Lot, is_paid
from mintlots.payments import count_payments, nth_payment, payments, place_of
from tests import plain
from tests.plain import TRIED_COINS, TRIED_LOTS

AMOUNTS = (0, 1, 2, 5, 7, 12, 15, 30, 59, 60, 61, 97, 120, 200, 251, 399, 400)


class CountTest(unittest.TestCase):
    def test_all_sums(self):
        for lot in TRIED_LOTS[:40]:
            for amount in range(401):
                told = count_payments(lot, amount)
                if told != plain.number_of_payments(lot.coins, amount):
                    self.fail((str(lot), amount, told))

    def test_some_sums_by_many_lots(self):
        for lot in TRIED_LOTS:
            for amount in AMOUNTS:
                with self.subTest(lot=str(lot), amount=amount):
                    self.assertEqual(count_payments(lot, amount), plain.number_of_payments(lot.coins, amount))
                    self.assertEqual(count_payments(lot, amount) > 0, is_paid(lot, amount))

    def test_known_numbers(self):
        self.assertEqual(count_payments(Lot((1, 5, 10, 25, 50)), 100), 292)
        self.assertEqual(count_payments(small=40, lot=Lot((3, 5, 7))), 11)
        self.assertEqual(count_payments(Lot((1,)), 400), 1)
        self.assertEqual(count_payments(Lot((1, 2)), 400), 201)


class ListTest(unittest.TestCase):
    def test_against_all_payments_coin_by_coin(self):
        listed = refused = 0
        for coins in TRIED_COINS:
            for amount in AMOUNTS:
                number = plain.number_of_payments(coins, amount)
                with self.subTest(coins=coins, amount=amount):
                    if number <= 400:
                        listed += 1
                        right = tuple(plain.all_payments(coins, amount))
                        self.assertEqual(payments(Lot(coins), amount), right)
                        continue
                    refused += 1
                    with self.assertRaises(TooMany) as caught:
                        payments(Lot(coins), amount)
                    self.assertEqual(caught.exception.given, number)
        self.assertGreater(listed, 500)
        self.assertGreater(refused, 100)

    def test_kinds_of_values(self):
        told = payments(small=15, lot=Lot((3, 5, 7)))
        self.assertIs(type(told), tuple)
        self.assertEqual({type(payment) for payment in told}, {tuple})
        self.assertEqual({type(many) for payment in told for many in payment}, {int})

    def test_nought_has_one_payment(self):
        for lot in TRIED_LOTS:
            self.assertEqual(count_payments(lot, 0), 1)
            self.assertEqual(payments(lot, 0), ((0,) * len(lot.coins),))

    def test_missed_sums_have_none(self):
        for coins, amount in (((5, 8), 27), ((60,), 59), ((2,), 399), ((59, 60), 400), ((4, 6), 9)):
            self.assertEqual(payments(Lot(coins), amount), ())
            self.assertEqual(count_payments(Lot(coins), amount), 0)

    def test_four_hundred_are_listed_and_one_more_is_not(self):
        numbers = set()
        for coins in ((1, 2, 3), (1, 2, 5), (2, 3, 5), (1, 3, 4), (1, 2, 7), (1, 2, 4, 8), (1, 5, 7)):
            for amount in range(401):
                number = plain.number_of_payments(coins, amount)
                if 380 <= number <= 400:
                    numbers.add(number)
                    self.assertEqual(len(payments(Lot(coins), amount)), number)
                if 401 <= number <= 420:
                    numbers.add(number)
                    with self.assertRaises(TooMany) as caught:
                        payments(Lot(coins), amount)
                    self.assertEqual(caught.exception.given, number)
        self.assertIn(400, numbers)
        self.assertIn(401, numbers)

    def test_far_too_many(self):
        coins = tuple(range(1, 16))
        with self.assertRaises(TooMany) as caught:
            payments(Lot(coins), 400)
        self.assertEqual(caught.exception.given, plain.number_of_payments(coins, 400))


class PlaceTest(unittest.TestCase):
    def test_places_of_listed_payments(self):
        for coins in TRIED_COINS:
            for amount in AMOUNTS:
                if plain.number_of_payments(coins, amount) > 60:
                    continue
                lot = Lot(coins)
                for at, payment in enumerate(plain.all_payments(coins, amount)):
                    with self.subTest(coins=coins, amount=amount, at=at):
                        self.assertEqual(nth_payment(lot, amount, at), payment)
                        self.assertEqual(place_of(lot, payment), at)

    def test_they_lead_back_to_one_another(self):
        for coins in TRIED_COINS:
            lot = Lot(coins)
            for amount in (240, 360, 399, 400):
                number = plain.number_of_payments(coins, amount)
                places = sorted({at * number // 9 for at in range(9)} | {0, 1, number - 2, number - 1})
                known = [(at, nth_payment(lot, amount, at)) for at in places if 0 <= at < number]
                for at, payment in known:
                    self.assertEqual(plain.sum_of(coins, payment), amount)
                    self.assertEqual(place_of(lot, payment), at)
                told = [payment for _, payment in known]
                self.assertEqual(told, sorted(set(told)))

    def test_by_name(self):
        odd = Lot((3, 5, 7))
        self.assertEqual(nth_payment(index=2, small=15, lot=odd), (5, 0, 0))
        self.assertEqual(place_of(payment=(5, 0, 0), lot=odd), 2)

    def test_what_is_no_index(self):
        odd = Lot((3, 5, 7))
        for index in (3, 4, -1, -3, 10 ** 30, None, True, False, "0", b"", [], [0], (), (0,), {}, {0: 0}, {0}, object(),
                      odd, Lot):
            with self.subTest(index=index), self.assertRaises(InvalidNumber) as caught:
                nth_payment(odd, 15, index)
            self.assertIs(caught.exception.given, index)

    def test_no_index_for_a_missed_sum(self):
        for index in (0, 1, -1, None, True, False, "", (), []):
            with self.subTest(index=index), self.assertRaises(InvalidNumber) as caught:
                nth_payment(Lot((5, 8)), 27, index)
            self.assertIs(caught.exception.given, index)

    def test_no_index_behind_the_last_one(self):
        for coins, amount in (((1,), 400), ((1, 2), 400), (tuple(range(1, 16)), 400), ((7,), 0)):
            number = plain.number_of_payments(coins, amount)
            nth_payment(Lot(coins), amount, number - 1)
            with self.assertRaises(InvalidNumber) as caught:
                nth_payment(Lot(coins), amount, number)
            self.assertEqual(caught.exception.given, number)


class PlaceErrorsTest(unittest.TestCase):
    def wrong(self, payment, index):
        with self.subTest(payment=payment), self.assertRaises(InvalidPayment) as caught:
            place_of(Lot((3, 5, 7)), payment)
        if index is None:
            self.assertIsNone(caught.exception.index)
        else:
            self.assertEqual(caught.exception.index, index)

    def test_no_tuple(self):
        for payment in (None, True, False, 0, 5, "", "abc", b"abc", [], [0, 0, 0], {}, {0: 0}, {1, 2, 3}, object(),
                        Lot((3, 5, 7)), Lot, range(3)):
            self.wrong(payment, None)

    def test_a_wrong_element(self):
        for many in (None, True, False, "1", b"1", [], [1], (), (1,), {}, {1}, object(), Lot((1,)), -1, -10 ** 99):
            self.wrong((many, 0, 0), 0)
            self.wrong((0, many, 0), 1)
            self.wrong((0, 0, many), 2)
            self.wrong((0, many, many), 1)
            self.wrong((many,), 0)
            self.wrong((0, many), 1)
            self.wrong((0, 0, 0, many), 3)
            self.wrong((0, 0, many, 0), 2)
            self.wrong((1000, many, 1000), 1)

    def test_one_too_many(self):
        self.wrong((0, 0, 0, 0), 3)
        self.wrong((0, 0, 0, 0, 0), 3)
        self.wrong((500, 500, 500, 0), 3)
        self.wrong((0,) * 3000, 3)

    def test_too_few(self):
        self.wrong((), 0)
        self.wrong((0,), 1)
        self.wrong((5, 5), 2)
        self.wrong((500, 500), 2)

    def test_a_sum_above_four_hundred(self):
        for coins, payment, amount in (((1,), (401,), 401), ((5, 8), (0, 51), 408), ((3, 5, 7), (0, 0, 10 ** 40),
                                       7 * 10 ** 40), ((1, 60), (41, 6), 401), ((3, 5, 7), (100, 10, 9), 413)):
            with self.subTest(coins=coins, payment=payment), self.assertRaises(TooMany) as caught:
                place_of(Lot(coins), payment)
            self.assertEqual(caught.exception.given, amount)
        self.assertEqual(place_of(Lot((1, 60)), (40, 6)), 0)
        self.assertEqual(place_of(Lot((1,)), (400,)), 0)


if __name__ == "__main__":
    unittest.main()
