"""[20]: what two purses settle by giving there and back."""

import random
import unittest

from mintlots.errors import InvalidDeal, InvalidNumber, InvalidPrice, InvalidPurse, NotSettled, TooMany
from mintlots.pots import behind, deal_for, pot, prices, reach, settles_all, ways_to_settle
from mintlots.purses import held, is_full
from tests import plain_purses as plain


def some_pairs():
    """Pairs of purses with at most twelve pieces together, empty ones and like pieces among them."""
    source = random.Random(20)
    found = [((), ()), ((1,), ()), ((), (1,)), ((5, 10), (1, 2)), ((4, 8), (1, 2)), ((1,) * 6, (1,) * 6), ((), (1,) * 12),
             ((1000,) * 6, (999,) * 6), ((5, 10), (1, 2, 5)), ((1, 2, 4, 8, 16, 32), (64, 128, 256, 512, 1000, 1000)),
             ((2, 4), (1,)), ((1, 1), (1, 1)), ((3,), (3,)), ((1,) * 12, ())]
    while len(found) < 130:
        top = source.choice((2, 4, 8, 20, 100, 1000))
        number = source.randint(0, source.choice((4, 8, 12)))
        cut = source.randint(0, number)
        pieces = [source.randint(1, top) for _ in range(number)]
        found.append((tuple(sorted(pieces[:cut])), tuple(sorted(pieces[cut:]))))
    return found


PAIRS = some_pairs()
TOO_MANY = (((1,) * 12, (1,), 13), ((), (1,) * 13, None), ((1,) * 7, (2,) * 6, 13), ((1,) * 12, (1000,) * 12, 24))


class PricesTest(unittest.TestCase):
    def test_against_all_deals(self):
        for buyer, seller in PAIRS:
            ways = {}
            for handed in plain.parts(buyer):
                for back in plain.parts(seller):
                    price = sum(handed) - sum(back)
                    ways[price] = ways.get(price, 0) + 1
            with self.subTest(buyer=buyer, seller=seller):
                self.assertEqual(prices(buyer, seller), tuple(sorted(ways)))
                self.assertEqual(prices(seller=seller, buyer=buyer), tuple(sorted(ways)))
                asked = sorted(ways) if len(ways) < 120 else sorted(ways)[::17]
                for price in asked:
                    self.assertEqual(ways_to_settle(buyer, seller, price), ways[price])
                    self.assertEqual(ways_to_settle(price=-price, seller=buyer, buyer=seller), ways[price])
                for price in (-sum(seller) - 1, sum(buyer) + 1, 10 ** 30, -10 ** 30):
                    self.assertEqual(ways_to_settle(buyer, seller, price), 0)
                for price in range(-20, 21):
                    self.assertEqual(ways_to_settle(buyer, seller, price), ways.get(price, 0))
                right = 0
                while right + 1 in ways:
                    right += 1
                self.assertEqual(reach(buyer, seller), right)
                self.assertEqual(reach(seller=seller, buyer=buyer), right)

    def test_by_the_pot(self):
        for buyer, seller in PAIRS:
            with self.subTest(buyer=buyer, seller=seller):
                told = pot(buyer, seller)
                self.assertEqual(told, tuple(sorted(buyer + seller)))
                self.assertEqual(pot(seller=seller, buyer=buyer), told)
                self.assertEqual(pot(seller, buyer), told)
                self.assertEqual(prices(buyer, seller), tuple(total - sum(seller) for total in held(told)))

    def test_exchanged_purses_settle_the_opposite_prices(self):
        for buyer, seller in PAIRS:
            self.assertEqual(prices(seller, buyer), tuple(-price for price in reversed(prices(buyer, seller))))

    def test_known_ones(self):
        self.assertEqual(prices((5,), (1, 1)), (-2, -1, 0, 3, 4, 5))
        self.assertEqual(ways_to_settle((5, 10), (1, 2, 5), 7), 2)
        self.assertEqual((reach((4, 8), (1, 2)), reach((5, 10), (1, 2))), (12, 0))
        self.assertEqual((prices((), ()), reach((), ()), pot((), ())), ((0,), 0, ()))
        self.assertEqual(ways_to_settle((), (), 0), 1)
        self.assertEqual(reach((), (1, 2)), 0)
        self.assertEqual(reach((1, 2, 4, 8, 16, 32), (64, 128, 256, 512, 1000, 1000)), 63)
        self.assertEqual(reach((64, 128, 256, 512, 1000, 1000), (1, 2, 4, 8, 16, 32)), 2960)


class SettlesAllTest(unittest.TestCase):
    def right(self, buyer, seller, lost):
        """By going through all losses and all deals."""
        if len(buyer) + len(seller) <= lost:
            return False
        for few in range(lost + 1):
            if few > len(buyer) or lost - few > len(seller):
                continue
            for bought in plain.left_behind(buyer, few):
                for sold in plain.left_behind(seller, lost - few):
                    if plain.all_prices(bought, sold) != set(range(-sum(sold), sum(bought) + 1)):
                        return False
        return True

    def test_against_all_losses(self):
        seen = {True: 0, False: 0}
        source = random.Random(21)
        pairs = [pair for pair in PAIRS if len(pair[0] + pair[1]) <= 7]
        for pieces in ((1, 1, 2, 3, 5), (1, 1, 1, 2, 3, 4), (1, 2, 3, 6), (1, 1, 1, 2), (1, 2, 4, 8), (1, 1, 2, 3, 6)):
            for _ in range(6):
                mixed = source.sample(pieces, len(pieces))
                cut = source.randint(0, len(pieces))
                pairs.append((tuple(sorted(mixed[:cut])), tuple(sorted(mixed[cut:]))))
        for buyer, seller in pairs:
            for lost in (0, 1, 2, 3, 7, 11):
                with self.subTest(buyer=buyer, seller=seller, lost=lost):
                    right = self.right(buyer, seller, lost)
                    seen[right] += 1
                    self.assertIs(settles_all(buyer, seller, lost), right)
                    self.assertIs(settles_all(lost=lost, seller=seller, buyer=buyer), right)
                    self.assertIs(settles_all(seller, buyer, lost), right)
        self.assertGreater(min(seen.values()), 50)

    def test_by_the_pot(self):
        for buyer, seller in PAIRS:
            for lost in range(0, 12):
                self.assertIs(settles_all(buyer, seller, lost), is_full(pot(buyer, seller), lost))

    def test_known_ones(self):
        self.assertIs(settles_all((4, 8), (1, 2), 0), True)
        self.assertIs(settles_all((4, 8), (1, 2), 1), False)
        self.assertIs(settles_all((), (), 0), False)
        self.assertIs(settles_all((1,), (), 0), True)
        self.assertIs(settles_all((1,), (1,), 2), False)
        self.assertIs(settles_all((1,) * 6, (1,) * 6, 11), True)


class DealTest(unittest.TestCase):
    def test_the_fewest_pieces(self):
        for buyer, seller in PAIRS:
            best = {}
            for handed in plain.parts(buyer):
                for back in plain.parts(seller):
                    price = sum(handed) - sum(back)
                    best[price] = min(best.get(price, 99), len(handed) + len(back))
            asked = sorted(best) if len(best) < 60 else sorted(best)[::37]
            for price in asked:
                with self.subTest(buyer=buyer, seller=seller, price=price):
                    self.check(buyer, seller, price, best[price])
            for price in [price for price in range(-30, 31) if price not in best] + [10 ** 30, -10 ** 30]:
                with self.subTest(buyer=buyer, seller=seller, price=price), self.assertRaises(NotSettled) as caught:
                    deal_for(buyer, seller, price)
                self.assertEqual(caught.exception.given, price)

    def check(self, buyer, seller, price, number):
        deal = deal_for(buyer, seller, price)
        self.assertEqual(deal_for(price=price, seller=seller, buyer=buyer), deal)
        self.assertEqual([type(part) for part in (deal,) + deal], [tuple] * 3)
        handed, back = deal
        self.assertEqual((handed, back), (tuple(sorted(handed)), tuple(sorted(back))))
        self.assertTrue(plain.has(buyer, handed) and plain.has(seller, back))
        self.assertEqual(sum(handed) - sum(back), price)
        self.assertEqual(len(handed) + len(back), number)
        told = behind(buyer, seller, deal)
        self.assertEqual(told, plain.purses_behind(buyer, seller, deal))
        self.assertEqual(pot(*told), pot(buyer, seller))

    def test_known_deals(self):
        self.assertEqual(deal_for((4, 8), (1, 2), 5), ((8,), (1, 2)))
        self.assertEqual(deal_for((4, 8), (1, 2), 0), ((), ()))
        self.assertEqual(deal_for((), (1, 2), -3), ((), (1, 2)))
        self.assertEqual(deal_for((2, 3, 5), (), 5), ((5,), ()))


class BehindTest(unittest.TestCase):
    def test_all_deals(self):
        source = random.Random(22)
        for buyer, seller in PAIRS:
            for _ in range(10):
                deal = (source.choice(plain.parts(buyer)), source.choice(plain.parts(seller)))
                with self.subTest(buyer=buyer, seller=seller, deal=deal):
                    told = behind(buyer, seller, deal)
                    self.assertIs(type(told), tuple)
                    self.assertEqual(told, plain.purses_behind(buyer, seller, deal))
                    self.assertEqual(behind(deal=deal, seller=seller, buyer=buyer), told)
                    self.assertEqual(pot(*told), pot(buyer, seller))
                    self.assertEqual(sum(buyer) - sum(told[0]), sum(deal[0]) - sum(deal[1]))
                    self.assertEqual(prices(*told)[0], -sum(told[1]))

    def wrong(self, buyer, seller, deal, index):
        with self.subTest(deal=deal), self.assertRaises(InvalidDeal) as caught:
            behind(buyer, seller, deal)
        if index is None:
            self.assertIsNone(caught.exception.index)
        else:
            self.assertEqual(caught.exception.index, index)

    def test_no_pair_of_purses(self):
        for deal in (None, True, 0, 5, "", "ab", b"ab", [], [(), ()], (), ((),), ((), (), ()), ((4,),), ([4], ()),
                     ((), [1]), ((8, 4), ()), ((), (2, 1)), ((0,), ()), ((True,), ()), ((), (True,)), ((1001,), ()),
                     ((1,) * 13, ()), ((), (1,) * 13), (4, 1), ("4", "1"), ({}, {}), {(): ()}, object(), (None, ())):
            self.wrong((4, 8), (1, 2), deal, None)
            self.wrong((4,) * 12, (1, 2), deal, None)

    def test_pieces_that_are_not_there(self):
        for deal, index in ((((5,), ()), 0), (((4, 4), ()), 0), (((4, 8, 8), ()), 0), (((1,), (4,)), 0), (((4,), (4,)), 1),
                            (((4, 8), (1, 1)), 1), (((), (1, 2, 2)), 1), (((8, 8), (3,)), 0), (((), (8,)), 1)):
            self.wrong((4, 8), (1, 2), deal, index)
        self.wrong((), (), ((1,), ()), 0)
        self.wrong((), (), ((), (1,)), 1)
        # They are looked at ahead of the number of all pieces.
        self.wrong((4,) * 12, (1, 2), ((5,), ()), 0)
        self.wrong((4,) * 12, (1, 2), ((4,), (3,)), 1)


class ErrorsTest(unittest.TestCase):
    calls = (lambda buyer, seller: pot(buyer, seller), lambda buyer, seller: prices(buyer, seller),
             lambda buyer, seller: ways_to_settle(buyer, seller, 10 ** 30),
             lambda buyer, seller: settles_all(buyer, seller, 11), lambda buyer, seller: reach(buyer, seller),
             lambda buyer, seller: deal_for(buyer, seller, 10 ** 30),
             lambda buyer, seller: behind(buyer, seller, ((), ())))

    def test_too_many_pieces(self):
        for buyer, seller, number in TOO_MANY:
            for call in self.calls:
                with self.subTest(buyer=buyer, seller=seller):
                    if number is None:
                        with self.assertRaises(InvalidPurse) as caught:
                            call(buyer, seller)
                        self.assertEqual(caught.exception.given, seller)
                        continue
                    with self.assertRaises(TooMany) as caught:
                        call(buyer, seller)
                    self.assertEqual(caught.exception.given, number)
        for call in self.calls[:4]:
            call((1,) * 12, ())
            call((), (1,) * 12)
            call((1,) * 6, (2,) * 6)

    def test_the_number_of_pieces_comes_behind_the_other_arguments(self):
        many = ((1,) * 7, (1,) * 7)
        for call in (ways_to_settle, deal_for):
            with self.assertRaises(InvalidPrice):
                call(*many, None)
            with self.assertRaises(TooMany):
                call(*many, 10 ** 30)
        with self.assertRaises(InvalidNumber):
            settles_all(*many, 12)
        with self.assertRaises(InvalidDeal):
            behind(*many, None)
        with self.assertRaises(InvalidPurse) as caught:
            ways_to_settle((1,) * 12, (2, 1), None)
        self.assertEqual(caught.exception.given, (2, 1))

    def test_wrong_prices(self):
        for price in (10 ** 30 + 1, -10 ** 30 - 1, 10 ** 99, None, True, False, "1", (), [1], {}, object()):
            for call in (ways_to_settle, deal_for):
                with self.subTest(price=price), self.assertRaises(InvalidPrice) as caught:
                    call((1,), (2,), price)
                self.assertIs(caught.exception.given, price)

    def test_wrong_purses(self):
        for purse in ((2, 1), [1], None, (True,), (0,), (1001,), (1,) * 13, "1", 1, {}, object()):
            for call in self.calls:
                for buyer, seller in ((purse, ()), ((), purse), (purse, (3, 2))):
                    with self.subTest(purse=purse), self.assertRaises(InvalidPurse) as caught:
                        call(buyer, seller)
                    self.assertIs(caught.exception.given, purse)


if __name__ == "__main__":
    unittest.main()
