"""[22], [18]: purses that are parted among some hands."""

import unittest
from unittest.mock import patch

from mintlots.errors import InvalidNumber, InvalidPurse, TooMany
from mintlots.partings import count_even, even_partings, full_parting, least_difference, most_hands
from tests import plain_purses as plain

TRIED = [purse for purse in plain.some_purses(24, 260, longest=7, greatest=(1, 2, 3, 4, 6, 9, 20, 1000))] + [
    (1, 2, 3, 4), (1, 1, 2, 2, 3, 3), (2, 5, 9), (1, 1, 2, 3), (1, 1, 1, 2, 3), (2, 2), (1, 1, 2, 2, 4, 4), (1,) * 7,
    (2,) * 6, (1, 1, 1, 1, 2, 2, 3), (1, 1, 1, 2, 2, 4, 5), (1, 2, 3, 4, 5, 6, 7), (3, 3, 3, 3), (1, 1, 1, 3)]
# With more than seven pieces fewer hands are gone through.
LONG = [(1, 2, 3, 4, 5, 6, 7, 8), (1, 1, 2, 2, 3, 3, 4, 4), (1,) * 10, (1, 1, 1, 2, 2, 2, 3, 3, 3),
        (1, 2, 3, 4, 5, 6, 7, 8, 9, 11), (1, 1, 2, 3, 4, 5, 6, 7, 8, 9), (1, 1, 1, 2, 2, 2, 4, 4, 4, 8),
        (5, 6, 7, 8, 9, 10, 11, 12, 13, 15), (1000,) * 10, (1, 1, 1, 1, 2, 3, 4, 5, 6, 12)]


def is_even(parting):
    return len({sum(purse) for purse in parting}) == 1


def is_full(parting):
    return all(plain.full(purse, 0) for purse in parting)


class EvenTest(unittest.TestCase):
    def check(self, purse, hands):
        right = tuple(parting for parting in plain.partings(purse, hands) if is_even(parting))
        told = even_partings(purse, hands)
        self.assertEqual(told, right)
        self.assertEqual(even_partings(hands=hands, purse=purse), right)
        self.assertEqual(count_even(purse, hands), len(right))
        self.assertEqual(count_even(hands=hands, purse=purse), len(right))
        self.assertEqual(list(told), sorted(set(told)))
        for parting in told:
            self.assertEqual(len(parting), hands)
            self.assertEqual(list(parting), sorted(parting))
            self.assertEqual(sorted(piece for part in parting for piece in part), list(purse))

    def test_against_giving_piece_by_piece(self):
        for purse in TRIED:
            for hands in range(1, 7 if len(purse) < 6 else 5):
                with self.subTest(purse=purse, hands=hands):
                    self.check(purse, hands)

    def test_more_pieces(self):
        for purse in LONG:
            for hands in (1, 2, 3):
                with self.subTest(purse=purse, hands=hands):
                    self.check(purse, hands)

    def test_known_ones(self):
        self.assertEqual(even_partings((1, 2, 3, 4), 2), (((1, 4), (2, 3)),))
        self.assertEqual(count_even((1, 1, 2, 2, 3, 3), 3), 1)
        self.assertEqual(even_partings((), 3), (((), (), ()),))
        self.assertEqual(even_partings((), 1), (((),),))
        self.assertEqual(even_partings((5,), 1), (((5,),),))
        self.assertEqual(even_partings((5,), 2), ())
        self.assertEqual(even_partings((1, 1), 6), ())
        self.assertEqual(even_partings((2,) * 6, 6), (((2,),) * 6,))
        self.assertEqual(even_partings((1,) * 10, 5), (((1, 1),) * 5,))
        self.assertEqual(count_even((1, 2, 3, 4, 5, 6, 7, 8, 9, 9), 6), 1)

    def test_too_many_partings(self):
        # No ten pieces are known that have more than 400 even partings; so the limit is taken lower here.
        purse = (1, 2, 3, 4, 5, 6, 7, 8, 9, 9)
        self.assertEqual(count_even(purse, 3), 16)
        with patch("mintlots.partings.MOST_LISTED", 16):
            self.assertEqual(len(even_partings(purse, 3)), 16)
        with patch("mintlots.partings.MOST_LISTED", 15), self.assertRaises(TooMany) as caught:
            even_partings(purse, 3)
        self.assertEqual(caught.exception.given, 16)


class DifferenceTest(unittest.TestCase):
    def test_against_giving_piece_by_piece(self):
        for purse in TRIED + LONG:
            with self.subTest(purse=purse):
                right = min(sum(high) - sum(low) for one, other in plain.partings(purse, 2)
                            for low, high in (sorted((one, other), key=sum),))
                self.assertEqual(least_difference(purse), right)
                self.assertEqual(least_difference(purse=purse), right)

    def test_known_ones(self):
        self.assertEqual(least_difference((2, 5, 9)), 2)
        self.assertEqual(least_difference(()), 0)
        self.assertEqual(least_difference((1000,)), 1000)
        self.assertEqual(least_difference((1000, 1000)), 0)
        self.assertEqual(least_difference((1, 2, 4, 8, 16, 32, 64, 128, 256, 512)), 1)


class FullTest(unittest.TestCase):
    def check(self, purse, hands):
        right = [parting for parting in plain.partings(purse, hands) if is_full(parting)]
        told = full_parting(purse, hands)
        self.assertEqual(full_parting(hands=hands, purse=purse), told)
        if right:
            self.assertIn(told, right)
            self.assertEqual([type(part) for part in (told,) + told], [tuple] * (hands + 1))
        else:
            self.assertIsNone(told)
        return bool(right)

    def test_against_giving_piece_by_piece(self):
        seen = {True: 0, False: 0}
        for purse in TRIED:
            for hands in range(1, 7 if len(purse) < 6 else 5):
                with self.subTest(purse=purse, hands=hands):
                    seen[self.check(purse, hands)] += 1
        self.assertGreater(min(seen.values()), 100)

    def test_more_pieces(self):
        for purse in LONG:
            for hands in (1, 2, 3):
                with self.subTest(purse=purse, hands=hands):
                    self.check(purse, hands)

    def test_most_hands(self):
        for purse in TRIED:
            if len(purse) > 6:
                continue
            right = max((hands for hands in range(1, 7) if any(map(is_full, plain.partings(purse, hands)))), default=0)
            with self.subTest(purse=purse):
                self.assertEqual(most_hands(purse), right)
                self.assertEqual(most_hands(purse=purse), right)

    def test_most_hands_beside_full_parting(self):
        for purse in TRIED + LONG:
            told = most_hands(purse)
            for hands in range(1, 7):
                self.assertEqual(full_parting(purse, hands) is not None, hands <= told, (purse, hands))

    def test_above_six_hands(self):
        for many in range(1, 11):
            self.assertEqual(most_hands((1,) * many), many)
        self.assertEqual(most_hands((1,) * 8 + (2, 2)), 8)
        self.assertEqual(most_hands((1,) * 9 + (3,)), 8)
        self.assertEqual(most_hands((1,) * 9 + (9,)), 2)
        self.assertEqual(most_hands((1,) * 9 + (11,)), 0)

    def test_known_ones(self):
        self.assertEqual(full_parting((1, 1, 2, 3), 2), ((1,), (1, 2, 3)))
        self.assertEqual(most_hands((1, 1, 1, 2, 3)), 3)
        self.assertEqual(most_hands((2, 2)), 0)
        self.assertEqual(most_hands(()), 0)
        self.assertEqual(most_hands((1,)), 1)
        self.assertIsNone(full_parting((), 1))
        self.assertIsNone(full_parting((), 6))
        self.assertIsNone(full_parting((1,), 2))
        self.assertIsNone(full_parting((2,), 1))
        self.assertEqual(full_parting((1, 1), 2), ((1,), (1,)))
        # The first piece 3 must not go where the first piece 2 is missing.
        self.assertEqual(full_parting((1, 1, 2, 3, 3, 6), 1), ((1, 1, 2, 3, 3, 6),))


class ErrorsTest(unittest.TestCase):
    both = (even_partings, count_even, full_parting)
    calls = tuple(lambda purse, call=call: call(purse, 2) for call in both) + (least_difference, most_hands)

    def test_wrong_purses(self):
        for purse in ((2, 1), [1], None, True, (True,), (0,), (1001,), (1,) * 13, "1", 1, {}, object()):
            for call in self.calls:
                with self.subTest(purse=purse), self.assertRaises(InvalidPurse) as caught:
                    call(purse)
                self.assertIs(caught.exception.given, purse)

    def test_too_many_pieces(self):
        for purse in ((1,) * 11, (1,) * 12, (1, 2, 3, 4, 5, 6, 7, 8, 9, 10, 11)):
            for call in self.calls:
                with self.subTest(purse=purse), self.assertRaises(TooMany) as caught:
                    call(purse)
                self.assertEqual(caught.exception.given, len(purse))
        for call in self.calls:
            call((1,) * 10)

    def test_other_numbers_of_hands(self):
        for hands in (0, 7, -1, 10 ** 30, None, True, False, "1", (), (1,), [], {}, object()):
            for call in self.both:
                for purse in ((1, 1), (1,) * 12):
                    with self.subTest(hands=hands), self.assertRaises(InvalidNumber) as caught:
                        call(purse, hands)
                    self.assertIs(caught.exception.given, hands)
        for call in self.both:
            with self.assertRaises(InvalidPurse):
                call((1,) * 13, 0)


if __name__ == "__main__":
    unittest.main()
