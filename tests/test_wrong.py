"""[3], [4], [5]: wrong arguments, alone and several at once, for every function of the package."""

import itertools
import unittest

from mintlots import backs, lengths, lots, partings, payments, pots, purses, queues, singles, swaps
from mintlots.errors import (InvalidAmount, InvalidDeal, InvalidNumber, InvalidPayment, InvalidPrice, InvalidPurse,
                             InvalidQueue, InvalidText, Missed, NoEnd, NoSuchCoin, NotALot, NotFull, NotSettled, TooMany)
from mintlots.lots import Lot


class Odd:
    """A value that must not be compared, counted or shown."""

    def __eq__(self, other):
        raise AssertionError("compared")

    def __bool__(self):
        raise AssertionError("tested")

    def __len__(self):
        raise AssertionError("counted")

    def __int__(self):
        raise AssertionError("taken for a number")

    def __index__(self):
        raise AssertionError("taken for a number")

    def __iter__(self):
        raise AssertionError("gone through")


def nested(depth):
    value = ()
    for _ in range(depth):
        value = (value,)
    return value


class LooksLikeALot:
    coins = (5, 8)


OTHERS = (None, True, False, "", "5", "5 8", "0", b"", b"5", [], [0], [5, 8], [[], {}], {}, {"coins": (5, 8)}, {5: 8},
          set(), {5}, object(), Odd(), LooksLikeALot(), len, int, Lot, nested(10), range(5), ValueError("x"))
NOT_A_LOT = OTHERS + (0, 5, -1, 10 ** 30, 10 ** 100, (), (5, 8), (Lot((5, 8)),), [Lot((5, 8))])
NOT_AN_AMOUNT = OTHERS + (-1, -10 ** 99, 10 ** 30 + 1, 10 ** 31, 10 ** 99, (), (5,), Lot((5, 8)))
NOT_SMALL = NOT_AN_AMOUNT + (401, 402, 10 ** 30)
NOT_AN_INDEX = OTHERS + (-1, 3, 10 ** 99, (), (0,), Lot((5, 8)))
NOT_A_COIN = OTHERS + (0, -3, 1, 4, 8, 60, 10 ** 99, (), (3,), Lot((3,)))
NOT_A_PAYMENT = tuple(value for value in OTHERS if not isinstance(value, tuple)) + (0, 5, 10 ** 99, Lot((5, 8)))
NOT_A_NUMBER = OTHERS + (-1, -10 ** 99, 10 ** 30 + 1, 10 ** 99, (), (1,), Lot((5, 8)))
NOT_WAYS = NOT_A_NUMBER + (0, 5)
NOT_A_PRICE = OTHERS + (-10 ** 30 - 1, 10 ** 30 + 1, 10 ** 99, -10 ** 99, (), (5,), Lot((5, 8)))
NOT_A_SWAP = OTHERS + (0, 5, 10 ** 99, (), (5,), (5, 8), Lot((5, 8)), ((5, 0, 0),), ((5, 0, 0), None), (Odd(), Odd()),
                       ((5, 0, 0), (0, 3, Odd())), [(5, 0, 0), (0, 3, 0)], ((5, 0, 0), (0, 3, 0), (0, 0, 0)))
NOT_A_PURSE = OTHERS + (0, 5, 10 ** 99, Lot((5, 8)), (0,), (-1,), (1001,), (2, 1), (1,) * 13, (1,) * 4000, (True,),
                        (1, True), (None,), ("1",), ([1],), ((1,),), (1, Odd()), (10 ** 99,), [1, 2])
NOT_A_TEXT = tuple(value for value in OTHERS if not isinstance(value, str)) + (
    0, 5, (), (5,), Lot((5, 8)), "", "0", "5 8", "+", "1+", "+1", "2+1", "01", "1001", "1 + 2", " 1", "1\n", "--", "x", "1" * 4000)
NOT_LOST = NOT_A_NUMBER + (12, 13)
NOT_PIECES = NOT_A_NUMBER + (0, 13)
NOT_A_WHOLE = NOT_A_NUMBER + (0,)
NOT_HANDS = NOT_A_NUMBER + (0, 7)
NO_DEAL = OTHERS + (0, 5, 10 ** 99, (), (5,), (5, 8), Lot((5, 8)), ((8,),), ((8,), None), (Odd(), Odd()), ((8,), (Odd(),)),
                    [(8,), (1,)], ((8,), (1,), ()), ((8, 4), ()), ((8,), (1, True)), ((1,) * 13, ()))
NO_QUEUE = tuple(value for value in OTHERS if not isinstance(value, tuple)) + (0, 5, 10 ** 99, Lot((5, 8)), [((5,), 3)])

ODD = Lot((3, 5, 7))

# For each kind of parameter: a right value, wrong ones, their error and what it must have.
KINDS = {
    "lot": (ODD, NOT_A_LOT, NotALot, "given"),
    "one": (ODD, NOT_A_LOT, NotALot, "given"),
    "other": (Lot((5, 8)), NOT_A_LOT, NotALot, "given"),
    "amount": (15, NOT_AN_AMOUNT, InvalidAmount, "given"),
    "small": (15, NOT_SMALL, InvalidAmount, "given"),
    "index": (2, NOT_AN_INDEX, InvalidNumber, "given"),
    "coin": (3, NOT_A_COIN, NoSuchCoin, "given"),
    "payment": ((5, 0, 0), NOT_A_PAYMENT, InvalidPayment, "none"),
    "goal": ((0, 3, 0), NOT_A_PAYMENT, InvalidPayment, "none"),
    "swap": (((5, 0, 0), (0, 3, 0)), NOT_A_SWAP, InvalidDeal, "none"),
    "ways": (2, NOT_WAYS, InvalidNumber, "given"),
    "price": (5, NOT_A_PRICE, InvalidPrice, "given"),
    "purse": ((1, 1, 2, 3), NOT_A_PURSE, InvalidPurse, "given"),
    "buyer": ((4, 8), NOT_A_PURSE, InvalidPurse, "given"),
    "seller": ((1, 2), NOT_A_PURSE, InvalidPurse, "given"),
    "till": ((1, 2), NOT_A_PURSE, InvalidPurse, "given"),
    "text": ("1+2", NOT_A_TEXT, InvalidText, "given"),
    "lost": (1, NOT_LOST, InvalidNumber, "given"),
    "pieces": (4, NOT_PIECES, InvalidNumber, "given"),
    "whole": (7, NOT_A_WHOLE, InvalidNumber, "given"),
    "hands": (2, NOT_HANDS, InvalidNumber, "given"),
    "deal": (((8,), (1, 2)), NO_DEAL, InvalidDeal, "none"),
    "queue": ((((5,), 3), ((1, 3), 3)), NO_QUEUE, InvalidQueue, "none"),
}

FUNCTIONS = (
    (lots.divisor, "lot"), (lots.lean, "lot"), (lots.is_paid, "lot amount"), (lots.least_sums, "lot coin"),
    (lots.missed, "lot"), (lots.count_missed, "lot"), (lots.last_missed, "lot"), (lots.pay_alike, "one other"),
    (lots.first_unlike, "one other"), (lots.is_within, "one other"), (lots.joined, "one other"),
    (payments.count_payments, "lot small"), (payments.payments, "lot small"),
    (payments.nth_payment, "lot small index"), (payments.place_of, "lot payment"),
    (payments.first_payment, "lot amount"), (payments.last_payment, "lot amount"),
    (payments.great_count, "lot amount"),
    (singles.few_sums, "lot ways"), (singles.single_sums, "lot"), (singles.last_single, "lot"),
    (singles.is_single, "lot payment"), (singles.other_payment, "lot payment"),
    (swaps.swaps, "lot"), (swaps.swap_at, "lot payment"), (swaps.swapped, "lot payment swap"),
    (swaps.way, "lot payment goal"),
    (lengths.least, "lot amount"), (lengths.most, "lot amount"), (lengths.least_payment, "lot amount"),
    (lengths.most_payment, "lot amount"), (lengths.lengths, "lot small"), (lengths.length_step, "lot"),
    (lengths.stretch, "lot"), (lengths.losses, "lot"), (lengths.gains, "lot"), (lengths.lag, "one other"),
    (backs.least_moved, "lot price"), (backs.least_deal, "lot price"), (backs.moved_losses, "lot"),
    (backs.worst_rests, "lot"),
    (purses.as_text, "purse"), (purses.from_text, "text"), (purses.held, "purse"),
    (purses.ways_held, "purse amount"), (purses.is_full, "purse lost"), (purses.gap, "purse lost"),
    (purses.best_whole, "pieces lost"), (purses.best_purse, "pieces lost"), (purses.fewest_pieces, "whole lost"),
    (purses.count_full, "whole pieces lost"), (purses.full_purses, "whole pieces lost"),
    (purses.may_come, "purse lost"),
    (pots.pot, "buyer seller"), (pots.prices, "buyer seller"), (pots.ways_to_settle, "buyer seller price"),
    (pots.settles_all, "buyer seller lost"), (pots.reach, "buyer seller"), (pots.deal_for, "buyer seller price"),
    (pots.behind, "buyer seller deal"),
    (queues.passes, "till queue"), (queues.plan, "till queue"), (queues.tills, "till queue"),
    (queues.orders, "till queue"), (queues.stuck, "till queue"),
    (partings.even_partings, "purse hands"), (partings.count_even, "purse hands"),
    (partings.least_difference, "purse"), (partings.full_parting, "purse hands"), (partings.most_hands, "purse"),
)


class WrongTest(unittest.TestCase):
    def check(self, call, error, kind, value):
        with self.assertRaises(error) as caught:
            call()
        self.assertIs(type(caught.exception), error)
        if kind == "given":
            self.assertIs(caught.exception.given, value)
        else:
            self.assertIsNone(caught.exception.index)

    def test_all_right(self):
        for function, told in FUNCTIONS:
            right = {name: KINDS[name][0] for name in told.split()}
            self.assertEqual(function(**right), function(*right.values()))
            self.assertEqual(function(**right), function(**dict(reversed(list(right.items())))))

    def test_one_wrong_argument(self):
        for function, told in FUNCTIONS:
            names = told.split()
            for name in names:
                _, wrong, error, kind = KINDS[name]
                for value in wrong:
                    values = {each: value if each == name else KINDS[each][0] for each in names}
                    with self.subTest(function=function.__name__, name=name, kind=type(value)):
                        self.check(lambda: function(**values), error, kind, value)
                        self.check(lambda: function(*values.values()), error, kind, value)

    def test_several_wrong_arguments(self):
        for function, told in FUNCTIONS:
            names = told.split()
            for number in range(2, len(names) + 1):
                for bad in itertools.combinations(names, number):
                    self.check_several(function, names, bad)

    def check_several(self, function, names, bad):
        _, wrong, error, kind = KINDS[bad[0]]
        for at in range(max(len(KINDS[name][1]) for name in bad)):
            values = {name: KINDS[name][0] for name in names}
            for shift, name in enumerate(bad):
                others = KINDS[name][1]
                values[name] = others[(at + 5 * shift) % len(others)]
            with self.subTest(function=function.__name__, bad=bad, at=at):
                self.check(lambda: function(**values), error, kind, values[bad[0]])
                self.check(lambda: function(*values.values()), error, kind, values[bad[0]])


class LastTest(unittest.TestCase):
    """What is told with "last" comes behind the errors of all arguments."""

    def test_joined(self):
        many = Lot(tuple(range(30, 45)))
        with self.assertRaises(NotALot):
            lots.joined(many, (45,))
        with self.assertRaises(NotALot):
            lots.joined((45,), many)

    def test_payments(self):
        with self.assertRaises(InvalidAmount):
            payments.payments(Lot(tuple(range(1, 16))), 401)
        with self.assertRaises(TooMany):
            payments.payments(Lot(tuple(range(1, 16))), 400)

    def test_place_of(self):
        with self.assertRaises(InvalidPayment):
            payments.place_of(ODD, (1000, 1000, None))
        with self.assertRaises(NotALot):
            payments.place_of((3, 5, 7), (1000, 1000, 1000))
        with self.assertRaises(TooMany):
            payments.place_of(ODD, (1000, 1000, 1000))

    def test_first_and_last_payment(self):
        for call in (payments.first_payment, payments.last_payment):
            with self.assertRaises(InvalidAmount):
                call(Lot((60,)), 10 ** 30 + 1)
            with self.assertRaises(NotALot):
                call("60", 59)
            with self.assertRaises(Missed) as caught:
                call(Lot((60,)), 59)
            self.assertEqual(caught.exception.given, 59)

    def test_great_count(self):
        with self.assertRaises(InvalidAmount):
            payments.great_count(Lot((59, 60)), -1)
        with self.assertRaises(InvalidAmount):
            payments.great_count(Lot((59, 60)), True)
        with self.assertRaises(TooMany):
            payments.great_count(Lot((59, 60)), 1)

    def test_few_sums(self):
        with self.assertRaises(InvalidNumber):
            singles.few_sums(Lot((5,)), 0)
        with self.assertRaises(NoEnd):
            singles.few_sums(Lot((5,)), 1)

    def test_is_single(self):
        for call in (singles.is_single, singles.other_payment):
            with self.assertRaises(InvalidPayment):
                call(ODD, (4000, 4000, -1))
            with self.assertRaises(TooMany):
                call(ODD, (4000, 4000, 1))

    def test_swaps(self):
        great = Lot((1, 2, 3, 4, 60))
        for call in (lambda: swaps.swap_at(great, (1, 1, 1, 1)), lambda: swaps.way(great, (0, 0, 0, 0, 1), (1, 0, 0, 0, 0)),
                     lambda: swaps.swapped(great, (0, 0, 0, 0), None)):
            with self.assertRaises(InvalidPayment):
                call()
        with self.assertRaises(InvalidDeal) as caught:
            swaps.swapped(great, (0, 0, 0, 0, 0), ((1, 0, 0, 0, 0), (1, 0, 0, 0, 0)))
        self.assertEqual(caught.exception.index, 0)
        with self.assertRaises(InvalidDeal) as caught:
            swaps.swapped(great, (0, 0, 0, 0, 0), ((2, 0, 0, 0, 0), (0, 1, 0, 0, 0)))
        self.assertEqual(caught.exception.index, 1)
        with self.assertRaises(TooMany) as caught:
            swaps.swapped(great, (2, 0, 0, 0, 0), ((2, 0, 0, 0, 0), (0, 1, 0, 0, 0)))
        self.assertEqual(caught.exception.given, 5)

    def test_least_and_most_payment(self):
        for call in (lengths.least_payment, lengths.most_payment):
            with self.assertRaises(InvalidAmount):
                call(Lot((60,)), 10 ** 30 + 1)
            with self.assertRaises(NotALot):
                call("60", 59)
            with self.assertRaises(Missed) as caught:
                call(Lot((60,)), 10 ** 30)
            self.assertEqual(caught.exception.given, 10 ** 30)

    def test_purses(self):
        for call in (purses.gap, purses.may_come):
            with self.assertRaises(InvalidNumber):
                call((), 12)
            with self.assertRaises(NotFull) as caught:
                call((), 11)
            self.assertEqual(caught.exception.given, ())
        with self.assertRaises(InvalidNumber):
            purses.full_purses(200, 12, 12)
        with self.assertRaises(TooMany):
            purses.full_purses(200, 12, 0)
        with self.assertRaises(NotFull):
            purses.may_come((2,) * 12, 0)

    def test_pots(self):
        many = ((2,) * 6, (2,) * 7)
        with self.assertRaises(InvalidPrice):
            pots.deal_for(*many, 10 ** 30 + 1)
        with self.assertRaises(TooMany) as caught:
            pots.deal_for(*many, 1)
        self.assertEqual(caught.exception.given, 13)
        with self.assertRaises(NotSettled) as caught:
            pots.deal_for(many[0], many[0], 1)
        self.assertEqual(caught.exception.given, 1)
        with self.assertRaises(InvalidDeal) as caught:
            pots.behind(*many, ((), (1,)))
        self.assertEqual(caught.exception.index, 1)
        with self.assertRaises(TooMany):
            pots.behind(*many, ((), (2,)))

    def test_queues_and_partings(self):
        with self.assertRaises(InvalidQueue) as caught:
            queues.plan((1,) * 12, (((1,), 1), ((1,), True)))
        self.assertEqual(caught.exception.index, 1)
        with self.assertRaises(InvalidNumber):
            partings.even_partings((1,) * 12, 0)
        with self.assertRaises(TooMany) as caught:
            partings.even_partings((1,) * 12, 1)
        self.assertEqual(caught.exception.given, 12)

    def test_no_end(self):
        for call in (lots.missed, lots.count_missed, lots.last_missed):
            with self.assertRaises(NotALot):
                call((6, 10))
            with self.assertRaises(NoEnd):
                call(Lot((6, 10)))

    def test_nth_payment_of_a_missed_sum(self):
        with self.assertRaises(InvalidAmount):
            payments.nth_payment(Lot((5, 8)), 401, 0)
        with self.assertRaises(InvalidNumber):
            payments.nth_payment(Lot((5, 8)), 27, 0)


class EdgesTest(unittest.TestCase):
    def test_the_limits_themselves_are_right(self):
        for amount in (0, 10 ** 30):
            self.assertIs(lots.is_paid(ODD, amount), True)
            payments.first_payment(ODD, amount)
            payments.last_payment(ODD, amount)
            payments.great_count(ODD, amount)
            for call in (lengths.least, lengths.most, lengths.least_payment, lengths.most_payment, backs.least_deal):
                call(ODD, amount)
            self.assertEqual(backs.least_moved(ODD, -amount), backs.least_moved(ODD, amount))
        for ways in (1, 4):
            singles.few_sums(ODD, ways)
        for small in (0, 400):
            payments.count_payments(ODD, small)
            payments.nth_payment(ODD, small, 0)
            self.assertEqual(len(payments.payments(Lot((59, 60)), small)), 1 if small == 0 else 0)
            self.assertEqual(lengths.lengths(Lot((59, 60)), small), (0,) if small == 0 else ())


if __name__ == "__main__":
    unittest.main()
