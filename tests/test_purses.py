"""[17], [18], [19]: purses, what they hold, and which are full."""

import functools
import random
import re
import unittest
from unittest.mock import patch

from mintlots.errors import InvalidNumber, InvalidPurse, InvalidText, NotFull, TooMany
from mintlots.purses import (as_text, best_purse, best_whole, count_full, fewest_pieces, from_text, full_purses, gap,
                             held, is_full, may_come, ways_held)
from tests import plain_purses as plain

TRIED = plain.some_purses(17, 160)
SHORT = plain.some_purses(18, 120, longest=8, greatest=(1, 2, 3, 5, 9))


def is_text(text):
    """Whether it is the text of a purse, read sign by sign."""
    if text == "-":
        return True
    if not re.fullmatch(r"[1-9][0-9]{0,3}(\+[1-9][0-9]{0,3})*", text):
        return False
    pieces = [int(word) for word in text.split("+")]
    return len(pieces) <= 12 and max(pieces) <= 1000 and pieces == sorted(pieces)


class TextTest(unittest.TestCase):
    def test_there_and_back(self):
        for purse in TRIED + [(1000,) * 12, (1, 1000), (10, 100, 1000)]:
            text = "+".join(map(str, purse)) or "-"
            with self.subTest(purse=purse):
                self.assertEqual(as_text(purse), text)
                self.assertEqual(as_text(purse=purse), text)
                self.assertEqual(from_text(text), purse)
                self.assertEqual(from_text(text=text), purse)
                self.assertIs(type(from_text(text)), tuple)
                self.assertEqual({type(piece) for piece in from_text(text)} | {int}, {int})

    def check(self, text):
        with self.subTest(text=text):
            if is_text(text):
                told = from_text(text)
                self.assertEqual(told, () if text == "-" else tuple(map(int, text.split("+"))))
                self.assertEqual(as_text(told), text)
                return True
            with self.assertRaises(InvalidText) as caught:
                from_text(text)
            self.assertIs(caught.exception.given, text)
            return False

    def test_a_sign_put_in_left_out_or_changed(self):
        source = random.Random(3)
        signs = "0123456789+- \n,x~"
        seen = {True: 0, False: 0}
        for purse in TRIED[::2] + [(1000,) * 12, (999, 1000), (5,), ()]:
            text = as_text(purse)
            for _ in range(40):
                at = source.randint(0, len(text))
                sign = source.choice(signs)
                for changed in (text[:at] + sign + text[at:], text[:at] + text[at + 1:],
                                text[:at] + sign + text[at + 1:]):
                    seen[self.check(changed)] += 1
        self.assertGreater(min(seen.values()), 500)

    def test_other_texts(self):
        for text in ("", "+", "++", "--", "-1", "1-", "1+", "+1", "1++2", "01", "1+02", "0", "0+1", "1001", "1+1001", "2+1",
                     "1 + 2", " 1", "1 ", "1\n", "\n", "1,2", "1 2", "1.0", "1e1", "0x1", "1_0", "(1, 2)", "()",
                     "+".join(["1"] * 13), "1" * 4000, "+" * 4000, "10000", "00001", "\u0661", "\u00b2", "1+\u0662",
                     "None", "True"):
            self.assertFalse(self.check(text))
        self.assertTrue(self.check("+".join(["1"] * 12)))
        self.assertTrue(self.check("1000"))

    def test_no_string(self):
        for text in (None, True, 5, b"5", b"-", (), (1, 2), [], ["1"], {}, object()):
            with self.subTest(text=text), self.assertRaises(InvalidText) as caught:
                from_text(text)
            self.assertIs(caught.exception.given, text)


class PurseTest(unittest.TestCase):
    def test_what_is_no_purse(self):
        wrong = [(0,), (-1,), (1001,), (2, 1), (1, 2, 1), (1,) * 13, (True,), (1, True), (None,), ("1",), ((1,),), ([1],),
                 [1], [], None, 1, True, "", "1", "-", {}, {1: 1}, b"1", object(), (1, 10 ** 99), (1000, 1001)]
        calls = (as_text, held, lambda purse: ways_held(purse, 0), lambda purse: is_full(purse, 0),
                 lambda purse: gap(purse, 0), lambda purse: may_come(purse, 0))
        for purse in wrong:
            for call in calls:
                with self.subTest(purse=purse), self.assertRaises(InvalidPurse) as caught:
                    call(purse)
                self.assertIs(caught.exception.given, purse)


class HeldTest(unittest.TestCase):
    def test_against_all_purses_of_some_of_the_pieces(self):
        for purse in TRIED:
            ways = {}
            for part in plain.parts(purse):
                ways[sum(part)] = ways.get(sum(part), 0) + 1
            with self.subTest(purse=purse):
                told = held(purse)
                self.assertEqual(told, tuple(sorted(ways)))
                self.assertEqual(held(purse=purse), told)
                amounts = list(told) if len(told) < 300 else list(told[:100]) + list(told[-100:])
                for amount in amounts:
                    self.assertEqual(ways_held(purse, amount), ways[amount])
                    self.assertEqual(ways_held(amount=sum(purse) - amount, purse=purse), ways[amount])

    def test_sums_between_and_above(self):
        for purse in TRIED[::3]:
            known = set(held(purse))
            for amount in list(range(0, min(sum(purse), 200))) + [sum(purse) + 1, 12001, 10 ** 12, 10 ** 30]:
                if amount not in known:
                    self.assertEqual(ways_held(purse, amount), 0)

    def test_known_purses(self):
        self.assertEqual(held(()), (0,))
        self.assertEqual(ways_held((), 0), 1)
        self.assertEqual(ways_held((), 1), 0)
        self.assertEqual(held((1,) * 12), tuple(range(13)))
        self.assertEqual(ways_held((1,) * 12, 6), 1)
        self.assertEqual(held((1, 2, 5)), (0, 1, 2, 3, 5, 6, 7, 8))
        self.assertEqual(ways_held((1, 1, 2, 2), 3), 1)
        self.assertEqual(ways_held((1, 1, 2, 2, 3), 3), 2)
        self.assertEqual(len(held((1, 2, 4, 8, 16, 32, 64, 128, 256, 512, 1000, 1000))), 3024)
        self.assertEqual(held((1000,) * 12)[-1], 12000)


class FullTest(unittest.TestCase):
    def check_gap(self, purse, lost):
        told = gap(purse, lost)
        self.assertEqual(gap(lost=lost, purse=purse), told)
        if told is None:
            return
        self.assertIs(type(told), tuple)
        part, amount = told
        self.assertEqual(len(part), lost)
        self.assertEqual(part, tuple(sorted(part)))
        self.assertTrue(plain.has(purse, part))
        left = plain.without(purse, part)
        self.assertIs(type(amount), int)
        self.assertTrue(0 <= amount <= sum(left))
        self.assertNotIn(amount, plain.wholes(left))

    def check(self, purse, lost):
        right = plain.full(purse, lost)
        self.assertIs(is_full(purse, lost), right)
        self.assertIs(is_full(lost=lost, purse=purse), right)
        if len(purse) <= lost:
            with self.assertRaises(NotFull) as caught:
                gap(purse, lost)
            self.assertIs(caught.exception.given, purse)
            return
        self.assertEqual(gap(purse, lost) is None, right)
        self.check_gap(purse, lost)

    def test_all_small_purses(self):
        for pieces in range(0, 7):
            for purse in plain.purses_up_to(pieces, 7 if pieces < 5 else 5):
                for lost in range(0, pieces + 2):
                    with self.subTest(purse=purse, lost=lost):
                        self.check(purse, lost)

    def test_longer_purses(self):
        source = random.Random(19)
        for purse in SHORT + TRIED[::4]:
            for lost in (0, 1, 2, source.randint(3, 11), 11):
                with self.subTest(purse=purse, lost=lost):
                    self.check(purse, lost)

    def test_about_the_best_purses(self):
        for lost in range(0, 12):
            for pieces in range(lost + 1, 13):
                best = best_purse(pieces, lost)
                for at in range(pieces):
                    more = tuple(sorted(best[:at] + (best[at] + 1,) + best[at + 1:]))
                    less = tuple(sorted(best[:at] + (max(1, best[at] - 1),) + best[at + 1:]))
                    for purse in (more, less):
                        if purse[-1] <= 1000 and (pieces < 9 or at in (0, 4, 9)):
                            with self.subTest(purse=purse, lost=lost):
                                self.check(purse, lost)

    def test_known_purses(self):
        self.assertIs(is_full((1, 2, 4), 0), True)
        self.assertIs(is_full((1, 1, 2, 3), 1), True)
        self.assertIs(is_full((1, 1, 2, 4), 1), False)
        self.assertIs(is_full((), 0), False)
        self.assertIs(is_full((1,), 0), True)
        self.assertIs(is_full((1,), 1), False)
        self.assertIs(is_full((1,) * 12, 11), True)
        self.assertIs(is_full((1,) * 11 + (2,), 11), False)
        self.assertEqual(gap((1, 2, 5), 0), ((), 4))
        for lost in range(12):
            with self.assertRaises(NotFull) as caught:
                gap((), lost)
            self.assertEqual(caught.exception.given, ())

    def test_other_numbers_of_lost_pieces(self):
        for lost in (-1, 12, 13, 10 ** 30, None, True, False, "0", (), (0,), [], {}, object()):
            for call in (lambda: is_full((2,), lost), lambda: gap((2,), lost), lambda: may_come((2,), lost),
                         lambda: best_whole(1, lost), lambda: best_purse(1, lost), lambda: fewest_pieces(1, lost),
                         lambda: count_full(1, 1, lost), lambda: full_purses(1, 1, lost)):
                with self.subTest(lost=lost), self.assertRaises(InvalidNumber) as caught:
                    call()
                self.assertIs(caught.exception.given, lost)


class BestTest(unittest.TestCase):
    def test_against_all_full_purses_of_few_pieces(self):
        for pieces in range(1, 6):
            for lost in range(0, 6):
                found = [purse for purse in plain.purses_up_to(pieces, 18 if pieces < 5 else 17)
                         if plain.full(purse, lost)]
                with self.subTest(pieces=pieces, lost=lost):
                    if not found:
                        self.assertIsNone(best_whole(pieces, lost))
                        self.assertIsNone(best_purse(pieces, lost))
                        continue
                    best = max(map(sum, found))
                    self.assertEqual(best_whole(pieces, lost), best)
                    self.assertEqual([best_purse(pieces, lost)], [purse for purse in found if sum(purse) == best])

    def test_all_numbers(self):
        for pieces in range(1, 13):
            for lost in range(0, 12):
                told = best_purse(pieces, lost)
                self.assertEqual(best_purse(lost=lost, pieces=pieces), told)
                self.assertEqual(best_whole(lost=lost, pieces=pieces), None if told is None else sum(told))
                self.assertEqual(told is None, pieces <= lost)
                if told is None:
                    continue
                self.assertEqual(len(told), pieces)
                self.assertTrue(plain.full(told, lost))
                # No piece alone could be greater.
                for at, piece in enumerate(told):
                    more = tuple(sorted(told[:at] + (piece + 1,) + told[at + 1:]))
                    self.assertTrue(piece == 1000 or not plain.full(more[:at + 1], lost) or more[at] != piece + 1)

    def test_known_ones(self):
        self.assertEqual(best_whole(5, 1), 12)
        self.assertEqual(best_purse(4, 0), (1, 2, 4, 8))
        self.assertEqual(best_purse(12, 0), (1, 2, 4, 8, 16, 32, 64, 128, 256, 512, 1000, 1000))
        self.assertEqual(best_whole(12, 0), 3023)
        self.assertEqual(best_purse(12, 1), (1, 1, 2, 3, 5, 8, 13, 21, 34, 55, 89, 144))
        self.assertEqual(best_purse(12, 11), (1,) * 12)
        self.assertEqual(best_purse(1, 0), (1,))
        self.assertIsNone(best_purse(1, 1))
        self.assertIsNone(best_whole(11, 11))

    def test_other_numbers_of_pieces(self):
        for pieces in (0, 13, -1, 10 ** 30, None, True, False, "1", (), (1,), [], {}, object()):
            for call in (lambda: best_whole(pieces, 0), lambda: best_purse(pieces, 99), lambda: count_full(1, pieces, 99),
                         lambda: full_purses(1, pieces, 99)):
                with self.subTest(pieces=pieces), self.assertRaises(InvalidNumber) as caught:
                    call()
                self.assertIs(caught.exception.given, pieces)

    def test_fewest_pieces_of_small_wholes(self):
        for lost in range(0, 5):
            for whole in range(1, 15):
                found = [pieces for pieces in range(1, min(whole, 12) + 1)
                         if any(plain.full(purse, lost) for purse in plain.purses_with(whole, pieces))]
                with self.subTest(whole=whole, lost=lost):
                    self.assertEqual(fewest_pieces(whole, lost), min(found) if found else None)
                    self.assertEqual(fewest_pieces(lost=lost, whole=whole), min(found) if found else None)

    def test_fewest_pieces_of_all_counted_wholes(self):
        for lost in range(0, 12):
            for whole in list(range(1, 40)) + [52, 64, 88, 89, 127, 128, 143, 199, 200]:
                found = [pieces for pieces in range(1, 13) if count_full(whole, pieces, lost) > 0]
                self.assertEqual(fewest_pieces(whole, lost), min(found) if found else None, (whole, lost))

    def test_fewest_pieces_of_great_wholes(self):
        for whole, lost, pieces in ((100, 0, 7), (100, 1, 10), (127, 0, 7), (128, 0, 8), (1023, 0, 10), (1024, 0, 11),
                                    (2023, 0, 11), (2024, 0, 12), (3023, 0, 12), (3024, 0, None), (376, 1, 12),
                                    (377, 1, None), (12, 11, 12), (13, 11, None), (11, 11, None), (1, 0, 1), (1, 1, None),
                                    (10 ** 30, 0, None), (12000, 0, None)):
            self.assertEqual(fewest_pieces(whole, lost), pieces, (whole, lost))

    def test_other_wholes(self):
        for whole in (0, -1, None, True, False, "1", (), (1,), [], {}, object(), 10 ** 99):
            for call in (lambda: fewest_pieces(whole, 99), lambda: count_full(whole, 99, 99),
                         lambda: full_purses(whole, 99, 99)):
                with self.subTest(whole=whole), self.assertRaises(InvalidNumber) as caught:
                    call()
                self.assertIs(caught.exception.given, whole)
        for call in (lambda: count_full(201, 1, 0), lambda: full_purses(201, 1, 0)):
            with self.assertRaises(InvalidNumber) as caught:
                call()
            self.assertEqual(caught.exception.given, 201)
        with self.assertRaises(InvalidNumber) as caught:
            fewest_pieces(10 ** 30 + 1, 0)
        self.assertEqual(caught.exception.given, 10 ** 30 + 1)
        self.assertEqual(fewest_pieces(201, 0), 8)
        self.assertEqual(count_full(200, 8, 0), number_of_full(200, 8, 0))


@functools.lru_cache(maxsize=None)
def number_going_on(left, pieces, lost, end, ahead):
    """How many full purses with `left` to come in so many pieces have `end` behind what comes to `ahead`."""
    if pieces == 0:
        return 1 if left == 0 else 0
    low = end[-1] if end else 1
    bound = ahead + 1 if lost else ahead + sum(end) + 1
    total = 0
    for piece in range(low, min(bound, left // pieces) + 1):
        longer = end + (piece,)
        over = max(0, len(longer) - max(lost, 1))
        total += number_going_on(left - piece, pieces - 1, lost, longer[over:], ahead + sum(longer[:over]))
    return total


def number_of_full(whole, pieces, lost):
    return number_going_on(whole, pieces, lost, (), 0) if pieces > lost else 0


class CountFullTest(unittest.TestCase):
    def test_against_going_through_all_purses(self):
        for whole in range(1, 23):
            for pieces in range(1, 13):
                known = plain.purses_with(whole, pieces)
                for lost in range(0, 5 if pieces < 9 else 3):
                    right = tuple(purse for purse in known if plain.full(purse, lost))
                    with self.subTest(whole=whole, pieces=pieces, lost=lost):
                        self.assertEqual(count_full(whole, pieces, lost), len(right))
                        self.assertEqual(count_full(lost=lost, pieces=pieces, whole=whole), len(right))
                        self.assertEqual(full_purses(whole, pieces, lost), right)
                        self.assertEqual(full_purses(lost=lost, pieces=pieces, whole=whole), right)

    def test_wholes_of_middle_size(self):
        for whole, pieces, lost in ((30, 5, 0), (31, 5, 0), (32, 5, 0), (40, 6, 0), (40, 6, 1), (35, 7, 1), (33, 8, 1),
                                    (30, 9, 2), (28, 10, 3), (28, 10, 2), (24, 11, 4), (60, 6, 0), (63, 6, 0), (64, 6, 0)):
            right = tuple(purse for purse in plain.purses_with(whole, pieces) if plain.full(purse, lost))
            with self.subTest(whole=whole, pieces=pieces, lost=lost):
                self.assertEqual(count_full(whole, pieces, lost), len(right))
                if len(right) <= 400:
                    self.assertEqual(full_purses(whole, pieces, lost), right)
                    continue
                with self.assertRaises(TooMany) as caught:
                    full_purses(whole, pieces, lost)
                self.assertEqual(caught.exception.given, len(right))

    def test_great_numbers(self):
        for whole in (25, 60, 100, 150, 199, 200):
            for pieces in range(1, 13):
                for lost in range(0, 12):
                    right = number_of_full(whole, pieces, lost)
                    with self.subTest(whole=whole, pieces=pieces, lost=lost):
                        self.assertEqual(count_full(whole, pieces, lost), right)
                        if right > 400:
                            with self.assertRaises(TooMany) as caught:
                                full_purses(whole, pieces, lost)
                            self.assertEqual(caught.exception.given, right)
                            continue
                        told = full_purses(whole, pieces, lost)
                        self.assertEqual(len(told), right)
                        self.assertEqual(list(told), sorted(set(told)))
                        for purse in told:
                            self.assertEqual((len(purse), sum(purse)), (pieces, whole))
                            self.assertIs(is_full(purse, lost), True)

    def test_about_four_hundred(self):
        for whole, pieces, lost, number in ((31, 12, 1, 398), (43, 10, 2, 397)):
            self.assertEqual(len(full_purses(whole, pieces, lost)), number)
        for whole, pieces, lost, number in ((37, 10, 2, 404), (29, 9, 0, 406)):
            with self.assertRaises(TooMany) as caught:
                full_purses(whole, pieces, lost)
            self.assertEqual(caught.exception.given, number)
        # There are none with just 400 or 401; so the limit is taken lower here.
        with patch("mintlots.purses.MOST_LISTED", 398):
            self.assertEqual(len(full_purses(31, 12, 1)), 398)
        with patch("mintlots.purses.MOST_LISTED", 397), self.assertRaises(TooMany) as caught:
            full_purses(31, 12, 1)
        self.assertEqual(caught.exception.given, 398)

    def test_known_ones(self):
        self.assertEqual(count_full(9, 4, 0), 4)
        self.assertEqual(full_purses(7, 4, 1), ((1, 1, 2, 3),))
        self.assertEqual(full_purses(1, 1, 0), ((1,),))
        self.assertEqual(full_purses(1, 1, 1), ())
        self.assertEqual(count_full(12, 12, 11), 1)
        self.assertEqual(count_full(200, 12, 11), 0)
        self.assertEqual(full_purses(127, 7, 0), ((1, 2, 4, 8, 16, 32, 64),))
        self.assertEqual(full_purses(128, 7, 0), ())


class MayComeTest(unittest.TestCase):
    def check(self, purse, lost):
        told = may_come(purse, lost)
        self.assertEqual(may_come(lost=lost, purse=purse), told)
        self.assertIs(type(told), int)
        self.assertTrue(1 <= told <= 1000)
        for piece in {1, told, max(1, told - 1), (told + 1) // 2}:
            self.assertTrue(plain.full(tuple(sorted(purse + (piece,))), lost))
        if told < 1000:
            for piece in (told + 1, told + 2, 2 * told + 5):
                self.assertFalse(plain.full(tuple(sorted(purse + (piece,))), lost))

    def test_all_small_full_purses(self):
        for pieces in range(1, 7):
            for purse in plain.purses_up_to(pieces, 6):
                for lost in range(0, pieces):
                    if not plain.full(purse, lost):
                        with self.subTest(purse=purse, lost=lost), self.assertRaises(NotFull) as caught:
                            may_come(purse, lost)
                        self.assertIs(caught.exception.given, purse)
                        continue
                    with self.subTest(purse=purse, lost=lost):
                        self.check(purse, lost)

    def test_not_above_one_thousand(self):
        purse = (1, 2, 4, 8, 16, 32, 64, 128, 256, 488)
        self.assertEqual(sum(purse), 999)
        self.assertEqual(may_come(purse, 0), 1000)
        self.assertEqual(may_come(purse[:-1] + (487,), 0), 999)
        self.assertEqual(may_come(purse[:-1] + (489,), 0), 1000)
        self.assertEqual(may_come(purse + (1000,), 0), 1000)

    def test_not_full_comes_first(self):
        for purse, lost in (((2,) * 12, 0), ((1,) * 11 + (3,), 10), ((1,), 1), ((), 0), ((1,) * 3, 11), ((1, 3), 0)):
            with self.subTest(purse=purse, lost=lost), self.assertRaises(NotFull) as caught:
                may_come(purse, lost)
            self.assertIs(caught.exception.given, purse)
        for purse, lost in (((1,) * 12, 0), ((1,) * 12, 11), (best_purse(12, 2), 2)):
            with self.subTest(purse=purse, lost=lost), self.assertRaises(TooMany) as caught:
                may_come(purse, lost)
            self.assertEqual(caught.exception.given, 13)
        self.assertEqual(may_come((1,) * 11, 0), 12)
        self.assertEqual(may_come((1,) * 11, 10), 2)
        self.assertEqual(may_come((1, 1, 2, 3), 1), 5)


if __name__ == "__main__":
    unittest.main()
