"""[3], [5], [6]: lots as objects and texts."""

import unittest
from unittest.mock import ANY

from mintlots.errors import InvalidCoins, InvalidText
from mintlots.lots import Lot
from tests.plain import TRIED_COINS


class CoinsTest(unittest.TestCase):
    def test_coins_by_position_and_by_name(self):
        for coins in TRIED_COINS:
            with self.subTest(coins=coins):
                self.assertEqual(Lot(coins).coins, coins)
                self.assertEqual(Lot(coins=coins).coins, coins)
                self.assertIs(type(Lot(coins).coins), tuple)

    def test_edges(self):
        self.assertEqual(Lot((1,)).coins, (1,))
        self.assertEqual(Lot((60,)).coins, (60,))
        self.assertEqual(len(Lot(tuple(range(46, 61))).coins), 15)

    def test_a_lot_never_changes(self):
        lot = Lot((5, 8))
        with self.assertRaises(AttributeError):
            lot.coins = (1, 2)
        self.assertEqual(lot.coins, (5, 8))

    def wrong(self, coins, index):
        for make in (lambda: Lot(coins), lambda: Lot(coins=coins)):
            with self.subTest(coins=coins), self.assertRaises(InvalidCoins) as caught:
                make()
            if index is None:
                self.assertIsNone(caught.exception.index)
            else:
                self.assertEqual(caught.exception.index, index)

    def test_no_tuple_and_the_empty_tuple(self):
        for coins in (None, True, False, 5, 0, "", "5 8", b"5", [], [5], [5, 8], {}, {5: 8}, {5, 8}, range(1, 4), (),
                      Lot((5, 8)), Lot, object(), len, iter((1, 2))):
            self.wrong(coins, None)

    def test_a_wrong_coin(self):
        for coin in (None, True, False, "5", "", b"5", [], [5], (), (5,), {}, {5: 5}, {5}, object(), Lot((5,)), Lot,
                     0, -1, -60, 61, 62, 1000, 10 ** 30, 10 ** 99, -10 ** 99):
            self.wrong((coin,), 0)
            self.wrong((5, 8, coin), 2)
            self.wrong((5, coin, 8), 1)
            self.wrong((coin, 5, coin), 0)

    def test_one_stands_first_only(self):
        self.wrong((1, True), 1)
        self.wrong((True, 2), 0)

    def test_not_greater_than_the_one_ahead(self):
        self.wrong((5, 5), 1)
        self.wrong((8, 5), 1)
        self.wrong((1, 2, 3, 3, 2), 3)
        self.wrong((60, 60), 1)
        self.wrong((3, 7, 5, 6), 2)
        self.wrong((3, 7, 6, 61), 2)

    def test_the_sixteenth(self):
        self.wrong(tuple(range(1, 17)), 15)
        self.wrong(tuple(range(1, 61)), 15)
        self.wrong(tuple(range(1, 16)) + (None,), 15)
        self.wrong(tuple(range(1, 16)) + (1, 2), 15)
        self.wrong(tuple(range(1, 9)) + (8,) + tuple(range(9, 40)), 8)
        self.wrong(tuple(range(1, 15)) + (14, 15), 14)
        self.wrong((1,) * 5000, 1)


class TextTest(unittest.TestCase):
    def test_text_there_and_back(self):
        for coins in TRIED_COINS:
            text = " ".join(map(str, coins))
            with self.subTest(text=text):
                self.assertEqual(str(Lot(coins)), text)
                self.assertEqual(Lot.read(text).coins, coins)
                self.assertEqual(Lot.read(text=text).coins, coins)
                self.assertIs(type(Lot.read(text)), Lot)
                self.assertEqual(Lot.read(str(Lot(coins))), Lot(coins))

    def test_read_off_a_lot(self):
        self.assertEqual(Lot((1,)).read("5 8").coins, (5, 8))

    def test_other_texts(self):
        for text in ("", " ", "5 ", " 5", "5  8", "5 8 ", " 5 8", "5\n", "5 8\n", "5\n8", "5,8", "5, 8", "05", "5 08",
                     "+5", "-5", "0", "0 5", "61", "5 61", "60 61", "100", "5 5", "8 5", "5 8 7", "1 1", "x", "5 x",
                     "5.0", "5_0", "1e1", "(5, 8)", "5-8", "5+8", "-", "0x5", "None", "True", "~", "5 8 5",
                     " ".join(map(str, range(1, 17))), " ".join(map(str, range(1, 61))), "5" * 100, "1 " * 1500,
                     "\u0665", "5\u00a08", "\u00b2"):
            with self.subTest(text=text):
                for read in (lambda: Lot.read(text), lambda: Lot.read(text=text)):
                    with self.assertRaises(InvalidText) as caught:
                        read()
                    self.assertIs(caught.exception.given, text)

    def test_what_is_no_string(self):
        for text in (None, True, False, 5, 0, -1, b"5 8", [], ["5", "8"], (), (5, 8), ("5", "8"), {}, {"5": 8}, {5},
                     object(), Lot((5, 8)), Lot, str):
            with self.subTest(text=text), self.assertRaises(InvalidText) as caught:
                Lot.read(text)
            self.assertIs(caught.exception.given, text)


class EqualTest(unittest.TestCase):
    def test_equal_exactly_if_the_coins_are(self):
        for one in TRIED_COINS[:40]:
            for other in TRIED_COINS[:40]:
                with self.subTest(one=one, other=other):
                    self.assertIs(Lot(one) == Lot(other), one == other)
                    self.assertIs(Lot(one) != Lot(other), one != other)

    def test_lots_that_pay_the_same_sums_are_not_equal(self):
        self.assertFalse(Lot((3, 5)) == Lot((3, 5, 8)))
        self.assertTrue(Lot((3, 5)) != Lot((3, 5, 8)))

    def test_equal_to_no_value_of_another_kind(self):
        lot = Lot((5, 8))
        for value in (None, True, False, 0, 5, "5 8", b"5 8", (5, 8), (), [5, 8], {5: 8}, {5, 8}, object(), Lot, str,
                      InvalidCoins(0)):
            with self.subTest(value=value):
                self.assertIs(lot == value, False)
                self.assertIs(value == lot, False)
                self.assertIs(lot != value, True)
                self.assertIs(value != lot, True)
        self.assertIs(lot == ANY, False)

    def test_every_lot_is_true(self):
        for coins in TRIED_COINS:
            self.assertIs(bool(Lot(coins)), True)


if __name__ == "__main__":
    unittest.main()
