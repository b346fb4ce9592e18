"""[3], [4], [5]: wrong arguments, alone and several at once, for every function of the package."""

import itertools
import unittest

from mintlots import (backs, calls, certificates, lengths, lots, naming, partings, payments, pots, purses, queues, singles,
                      swaps, views)
from mintlots.console import Console
from mintlots.counters import Counter
from mintlots.desks import Desk, played
from mintlots.errors import (Broken, InUse, InvalidAmount, InvalidAmounts, InvalidCoin, InvalidCommand, InvalidDeal,
                             InvalidLog, InvalidName, InvalidNames, InvalidNumber, InvalidPayment, InvalidPrice,
                             InvalidPurse, InvalidQueue, InvalidTellings, InvalidText, InvalidWish, Missed, NoEnd, NoFit,
                             NoSuchCoin, NoSuchPiece, NotALot, NotAStand, NotAThing, NotAView, NotFull, NotSettled, TooMany,
                             UnknownName)
from mintlots.lots import Lot
from mintlots.views import View
from tests.odd import Odd, nested


class LooksLikeALot:
    coins = (5, 8)


OTHERS = (None, True, False, "", "5", "5 8", "0", b"", b"5", [], [0], [5, 8], [[], {}], {}, {"coins": (5, 8)}, {5: 8},
          set(), {5}, object(), Odd(), LooksLikeALot(), len, int, Lot, nested(10), range(5), ValueError("x"))
NOT_A_LOT = OTHERS + (0, 5, -1, 10 ** 30, 10 ** 100, (), (5, 8), (Lot((5, 8)),), [Lot((5, 8))])
NOT_AN_AMOUNT = OTHERS + (-1, -10 ** 99, 10 ** 30 + 1, 10 ** 31, 10 ** 99, (), (5,), Lot((5, 8)))
NOT_SMALL = NOT_AN_AMOUNT + (401, 402, 10 ** 30)
NOT_AN_INDEX = OTHERS + (-1, 3, 10 ** 99, (), (0,), Lot((5, 8)))
NOT_A_COIN = OTHERS + (0, -3, 1, 4, 8, 60, 10 ** 99, (), (3,), Lot((3,)))
NOT_A_PAYMENT = tuple(value for value in OTHERS if not isinstance(value, tuple)) + (0, 5, 10 ** 99, Lot((5, 8)))
NOT_A_NUMBER = OTHERS + (-1, -10 ** 99, 10 ** 30 + 1, 10 ** 99, (), (1,), Lot((5, 8)))
NOT_WAYS = NOT_A_NUMBER + (0, 5)
NOT_A_PRICE = OTHERS + (-10 ** 30 - 1, 10 ** 30 + 1, 10 ** 99, -10 ** 99, (), (5,), Lot((5, 8)))
NOT_A_SWAP = OTHERS + (0, 5, 10 ** 99, (), (5,), (5, 8), Lot((5, 8)), ((5, 0, 0),), ((5, 0, 0), None), (Odd(), Odd()),
                       ((5, 0, 0), (0, 3, Odd())), [(5, 0, 0), (0, 3, 0)], ((5, 0, 0), (0, 3, 0), (0, 0, 0)))
NOT_A_PURSE = OTHERS + (0, 5, 10 ** 99, Lot((5, 8)), (0,), (-1,), (1001,), (2, 1), (1,) * 13, (1,) * 4000, (True,),
                        (1, True), (None,), ("1",), ([1],), ((1,),), (1, Odd()), (10 ** 99,), [1, 2])
NOT_A_TEXT = tuple(value for value in OTHERS if not isinstance(value, str)) + (
    0, 5, (), (5,), Lot((5, 8)), "", "0", "5 8", "+", "1+", "+1", "2+1", "01", "1001", "1 + 2", " 1", "1\n", "--", "x", "1" * 4000)
NOT_LOST = NOT_A_NUMBER + (12, 13)
NOT_PIECES = NOT_A_NUMBER + (0, 13)
NOT_A_WHOLE = NOT_A_NUMBER + (0,)
NOT_HANDS = NOT_A_NUMBER + (0, 7)
NO_DEAL = OTHERS + (0, 5, 10 ** 99, (), (5,), (5, 8), Lot((5, 8)), ((8,),), ((8,), None), (Odd(), Odd()), ((8,), (Odd(),)),
                    [(8,), (1,)], ((8,), (1,), ()), ((8, 4), ()), ((8,), (1, True)), ((1,) * 13, ()))
NO_QUEUE = tuple(value for value in OTHERS if not isinstance(value, tuple)) + (0, 5, 10 ** 99, Lot((5, 8)), [((5,), 3)])

NO_TUPLE = tuple(value for value in OTHERS if not isinstance(value, tuple)) + (0, 5, 10 ** 99, Lot((5, 8)), View(()))
NOT_A_NEW_COIN = OTHERS + (0, -3, 61, 10 ** 99, (), (3,), Lot((3,)))
NOT_A_VIEW = OTHERS + (0, 5, 10 ** 99, (), (("paid", 7),), ("paid", 7), Lot((5, 8)), (View(()),), [View(())])
NOT_A_TELLING = OTHERS + (0, 5, 10 ** 99, (), ("paid",), ("paid", 0), ("paid", 41), ("paid", True), ("paid", Odd()),
                          ("ways", 5), ("ways", 5, -1), (Odd(), 5), (Odd(), Odd()), ("paid", 7, Odd()), View(()))
NOT_LEAST = NOT_A_NUMBER + (0, 11)
NOT_START = NOT_LEAST + (1, 3)
NOT_A_PIECE = NOT_A_NUMBER + (0, 1001)
NOT_A_NAME = tuple(value for value in OTHERS if not isinstance(value, str)) + (
    0, 5, (), ("mint",), Lot((5, 8)), "", "A", "a b", "a1", "ninechars", "a\n")
NOT_THERE = NOT_A_NAME + ("other", "min", "mints")
NOT_A_THING = OTHERS + (0, 5, 10 ** 99, (2, 1), (0,), (True,), (Odd(),), (1,) * 13, [1, 2], View(()))
NOT_A_WISH = OTHERS + (0, 5, 10 ** 99, (), ("won",), ("mint", Odd()), ("mint", (Odd(),)), ("mint", ("pays", Odd())),
                       (Odd(), Odd()), (Odd(), "mint", "mint"), ("reach", "bag", "bag", Odd()), (["mint"], ("won",)),
                       ("within", {}, Odd()), ("mint", ("won", 1)), ("mint", ("ways", 5, True)), ["mint", ("won",)])
NO_SUCH_PROMISE = NOT_A_NUMBER + (1, 2)
NO_COMMAND = tuple(value for value in OTHERS if not isinstance(value, str)) + (
    0, 5, 10 ** 99, (), ("undo",), Lot((5, 8)), "", "pay", "pay  5", "pay 05", "Undo", "x" * 4000)
NO_PIECE_THERE = OTHERS + (0, -4, 1, 5, 1000, 10 ** 99, (), (4,), Lot((4,)))

ODD = Lot((3, 5, 7))

SEEN = View((("paid", 7), ("missed", 11), ("ways", 14, 2)))


def made_view(tellings):
    return View(tellings).tellings


def more(telling):
    return SEEN.more(telling).tellings


def purses_of(counter):
    return counter.buyer, counter.seller, counter.changes


def made_counter(buyer, seller):
    return purses_of(Counter(buyer, seller))


def changed(action):
    """What a method does at a new counter, or else nothing."""
    counter = Counter((4, 8), (1, 2))
    try:
        action(counter)
    finally:
        if not counter.changes and purses_of(counter) != ((4, 8), (1, 2), 0):
            raise AssertionError("changed")
    return purses_of(counter)


def settle(deal):
    return changed(lambda counter: counter.settle(deal=deal))


def pay(price):
    return changed(lambda counter: counter.pay(price=price))


def put(piece):
    return changed(lambda counter: counter.put(piece=piece))


def lose(piece):
    return changed(lambda counter: counter.lose(piece=piece))


def on_a_desk(action):
    """What a method does at a new desk, or else nothing."""
    desk = Desk()
    desk.put("mint", ODD)
    desk.put("bag", (1, 1, 2, 3))
    desk.promise(("mint", ("won",)))
    before = desk.log
    try:
        told = action(desk)
    except Exception:
        if desk.log != before:
            raise AssertionError("changed") from None
        raise
    return told, desk.names, desk.promises, desk.log


def put_on_a_desk(name, thing):
    return on_a_desk(lambda desk: desk.put(name=name, thing=thing))


def named_on_a_desk(name):
    return on_a_desk(lambda desk: desk.named(name=name))


def drop(name):
    return on_a_desk(lambda desk: desk.drop(name=name))


def promise(wish):
    return on_a_desk(lambda desk: desk.promise(wish=wish))


def lift(index):
    return on_a_desk(lambda desk: desk.lift(index=index))


def played_log(log):
    return played(log=log).log


def say(command):
    return Console((4, 8), (1, 2)).say(command=command)


def made_console(buyer, seller):
    return purses_of(Console(buyer, seller).counter)


# For each kind of parameter: a right value, wrong ones, their error and what it must have.
KINDS = {
    "lot": (ODD, NOT_A_LOT, NotALot, "given"),
    "one": (ODD, NOT_A_LOT, NotALot, "given"),
    "other": (Lot((5, 8)), NOT_A_LOT, NotALot, "given"),
    "amount": (15, NOT_AN_AMOUNT, InvalidAmount, "given"),
    "small": (15, NOT_SMALL, InvalidAmount, "given"),
    "index": (2, NOT_AN_INDEX, InvalidNumber, "given"),
    "coin": (3, NOT_A_COIN, NoSuchCoin, "given"),
    "payment": ((5, 0, 0), NOT_A_PAYMENT, InvalidPayment, "none"),
    "goal": ((0, 3, 0), NOT_A_PAYMENT, InvalidPayment, "none"),
    "swap": (((5, 0, 0), (0, 3, 0)), NOT_A_SWAP, InvalidDeal, "none"),
    "ways": (2, NOT_WAYS, InvalidNumber, "given"),
    "price": (5, NOT_A_PRICE, InvalidPrice, "given"),
    "purse": ((1, 1, 2, 3), NOT_A_PURSE, InvalidPurse, "given"),
    "buyer": ((4, 8), NOT_A_PURSE, InvalidPurse, "given"),
    "seller": ((1, 2), NOT_A_PURSE, InvalidPurse, "given"),
    "till": ((1, 2), NOT_A_PURSE, InvalidPurse, "given"),
    "text": ("1+2", NOT_A_TEXT, InvalidText, "given"),
    "lost": (1, NOT_LOST, InvalidNumber, "given"),
    "pieces": (4, NOT_PIECES, InvalidNumber, "given"),
    "whole": (7, NOT_A_WHOLE, InvalidNumber, "given"),
    "hands": (2, NOT_HANDS, InvalidNumber, "given"),
    "deal": (((8,), (1, 2)), NO_DEAL, InvalidDeal, "none"),
    "queue": ((((5,), 3), ((1, 3), 3)), NO_QUEUE, InvalidQueue, "none"),
    "stand": (ODD, NOT_A_LOT, NotALot, "given"),
    "names": ((2, 1), NO_TUPLE, InvalidNames, "none"),
    "tellings": ((("paid", 7),), NO_TUPLE, InvalidTellings, "none"),
    "telling": (("missed", 2), NOT_A_TELLING, InvalidTellings, 3),
    "view": (SEEN, NOT_A_VIEW, NotAView, "given"),
    "new_coin": (4, NOT_A_NEW_COIN, InvalidCoin, "given"),
    "spare_coin": (7, NOT_A_COIN, NoSuchCoin, "given"),
    "amounts": ((5, 6), NO_TUPLE, InvalidAmounts, "none"),
    "least": (4, NOT_LEAST, InvalidNumber, "given"),
    "start": (6, NOT_START, InvalidNumber, "given"),
    "piece": (4, NOT_A_PIECE, InvalidNumber, "given"),
    "own_piece": (4, NO_PIECE_THERE, NoSuchPiece, "given"),
    "some": (Lot((5, 7)), NOT_A_LOT, NotALot, "given"),
    "name": ("mint", NOT_A_NAME, InvalidName, "given"),
    "there": ("bag", NOT_THERE, UnknownName, "given"),
    "thing": (Lot((4, 5)), NOT_A_THING, NotAThing, "given"),
    "wish": (("bag", ("full", 1)), NOT_A_WISH, InvalidWish, "given"),
    "promised": (0, NO_SUCH_PROMISE, InvalidNumber, "given"),
    "log": ((("put", "a", "purse -"),), NO_TUPLE, InvalidLog, "none"),
    "command": ("pay 5", NO_COMMAND, InvalidCommand, "given"),
}

FUNCTIONS = (
    (lots.divisor, "lot"), (lots.lean, "lot"), (lots.is_paid, "lot amount"), (lots.least_sums, "lot coin"),
    (lots.missed, "lot"), (lots.count_missed, "lot"), (lots.last_missed, "lot"), (lots.pay_alike, "one other"),
    (lots.first_unlike, "one other"), (lots.is_within, "one other"), (lots.joined, "one other"),
    (payments.count_payments, "lot small"), (payments.payments, "lot small"),
    (payments.nth_payment, "lot small index"), (payments.place_of, "lot payment"),
    (payments.first_payment, "lot amount"), (payments.last_payment, "lot amount"),
    (payments.great_count, "lot amount"),
    (singles.few_sums, "lot ways"), (singles.single_sums, "lot"), (singles.last_single, "lot"),
    (singles.is_single, "lot payment"), (singles.other_payment, "lot payment"),
    (swaps.swaps, "lot"), (swaps.swap_at, "lot payment"), (swaps.swapped, "lot payment swap"),
    (swaps.way, "lot payment goal"),
    (lengths.least, "lot amount"), (lengths.most, "lot amount"), (lengths.least_payment, "lot amount"),
    (lengths.most_payment, "lot amount"), (lengths.lengths, "lot small"), (lengths.length_step, "lot"),
    (lengths.stretch, "lot"), (lengths.losses, "lot"), (lengths.gains, "lot"), (lengths.lag, "one other"),
    (backs.least_moved, "lot price"), (backs.least_deal, "lot price"), (backs.moved_losses, "lot"),
    (backs.worst_rests, "lot"),
    (purses.as_text, "purse"), (purses.from_text, "text"), (purses.held, "purse"),
    (purses.ways_held, "purse amount"), (purses.is_full, "purse lost"), (purses.gap, "purse lost"),
    (purses.best_whole, "pieces lost"), (purses.best_purse, "pieces lost"), (purses.fewest_pieces, "whole lost"),
    (purses.count_full, "whole pieces lost"), (purses.full_purses, "whole pieces lost"),
    (purses.may_come, "purse lost"),
    (pots.pot, "buyer seller"), (pots.prices, "buyer seller"), (pots.ways_to_settle, "buyer seller price"),
    (pots.settles_all, "buyer seller lost"), (pots.reach, "buyer seller"), (pots.deal_for, "buyer seller price"),
    (pots.behind, "buyer seller deal"),
    (queues.passes, "till queue"), (queues.plan, "till queue"), (queues.tills, "till queue"),
    (queues.orders, "till queue"), (queues.stuck, "till queue"),
    (partings.even_partings, "purse hands"), (partings.count_even, "purse hands"),
    (partings.least_difference, "purse"), (partings.full_parting, "purse hands"), (partings.most_hands, "purse"),
    (naming.is_won, "stand"), (naming.good_names, "stand"), (naming.end, "stand"), (naming.is_quiet, "stand"),
    (naming.named, "stand names"), (naming.game, "stand"),
    (made_view, "tellings"), (more, "telling"), (views.is_sound, "lot"), (views.fitting, "view"),
    (views.can_be, "view"), (views.sure, "view small"), (views.next_sum, "view"),
    (calls.called_in, "lot coin"), (calls.lost_sums, "lot coin=spare_coin"), (calls.struck, "lot coin=new_coin"),
    (calls.gained_sums, "lot coin=new_coin"), (calls.kept_lots, "lot amounts"), (calls.calling_orders, "lot amounts"),
    (calls.strikes, "lot least start"),
    (made_counter, "buyer seller"), (settle, "deal"), (pay, "price"), (put, "piece"), (lose, "piece=own_piece"),
    (put_on_a_desk, "name thing"), (named_on_a_desk, "name=there"), (drop, "name=there"), (promise, "wish"),
    (lift, "index=promised"), (played_log, "log"),
    (certificates.certify_paid, "lot amount"), (certificates.certify_last, "lot"),
    (certificates.certify_ways, "lot small"), (certificates.certify_least, "lot amount"),
    (certificates.certify_most, "lot amount"), (certificates.certify_lag, "one other"),
    (certificates.certify_moved, "lot price"), (certificates.certify_full, "purse lost"),
    (certificates.certify_price, "buyer seller price"), (certificates.certify_stand, "stand"),
    (certificates.certify_quiet, "stand"), (certificates.certify_fit, "view lot"),
    (certificates.certify_sure, "view small"), (certificates.certify_kept, "lot amounts some"),
    (made_console, "buyer seller"), (say, "command"),
)


def kinds_of(told):
    """For each parameter of a function its kind, which has the parameter's name if it does not stand behind it."""
    pairs = [word.split("=") for word in told.split()]
    return {pair[0]: KINDS[pair[-1]] for pair in pairs}


class WrongTest(unittest.TestCase):
    def check(self, call, error, kind, value):
        with self.assertRaises(error) as caught:
            call()
        self.assertIs(type(caught.exception), error)
        if kind == "given":
            self.assertIs(caught.exception.given, value)
        else:
            self.assertEqual(caught.exception.index, None if kind == "none" else kind)

    def test_all_right(self):
        for function, told in FUNCTIONS:
            right = {name: kind[0] for name, kind in kinds_of(told).items()}
            self.assertEqual(function(**right), function(*right.values()))
            self.assertEqual(function(**right), function(**dict(reversed(list(right.items())))))

    def test_one_wrong_argument(self):
        for function, told in FUNCTIONS:
            kinds = kinds_of(told)
            for name, (_, wrong, error, kind) in kinds.items():
                for value in wrong:
                    values = {each: value if each == name else kinds[each][0] for each in kinds}
                    with self.subTest(function=function.__name__, name=name, kind=type(value)):
                        self.check(lambda: function(**values), error, kind, value)
                        self.check(lambda: function(*values.values()), error, kind, value)

    def test_several_wrong_arguments(self):
        for function, told in FUNCTIONS:
            kinds = kinds_of(told)
            for number in range(2, len(kinds) + 1):
                for bad in itertools.combinations(kinds, number):
                    self.check_several(function, kinds, bad)

    def check_several(self, function, kinds, bad):
        _, wrong, error, kind = kinds[bad[0]]
        for at in range(max(len(kinds[name][1]) for name in bad)):
            values = {name: kinds[name][0] for name in kinds}
            for shift, name in enumerate(bad):
                others = kinds[name][1]
                values[name] = others[(at + 5 * shift) % len(others)]
            with self.subTest(function=function.__name__, bad=bad, at=at):
                self.check(lambda: function(**values), error, kind, values[bad[0]])
                self.check(lambda: function(*values.values()), error, kind, values[bad[0]])


class LastTest(unittest.TestCase):
    """What is told with "last" comes behind the errors of all arguments."""

    def test_joined(self):
        many = Lot(tuple(range(30, 45)))
        with self.assertRaises(NotALot):
            lots.joined(many, (45,))
        with self.assertRaises(NotALot):
            lots.joined((45,), many)

    def test_payments(self):
        with self.assertRaises(InvalidAmount):
            payments.payments(Lot(tuple(range(1, 16))), 401)
        with self.assertRaises(TooMany):
            payments.payments(Lot(tuple(range(1, 16))), 400)

    def test_place_of(self):
        with self.assertRaises(InvalidPayment):
            payments.place_of(ODD, (1000, 1000, None))
        with self.assertRaises(NotALot):
            payments.place_of((3, 5, 7), (1000, 1000, 1000))
        with self.assertRaises(TooMany):
            payments.place_of(ODD, (1000, 1000, 1000))

    def test_first_and_last_payment(self):
        for call in (payments.first_payment, payments.last_payment):
            with self.assertRaises(InvalidAmount):
                call(Lot((60,)), 10 ** 30 + 1)
            with self.assertRaises(NotALot):
                call("60", 59)
            with self.assertRaises(Missed) as caught:
                call(Lot((60,)), 59)
            self.assertEqual(caught.exception.given, 59)

    def test_great_count(self):
        with self.assertRaises(InvalidAmount):
            payments.great_count(Lot((59, 60)), -1)
        with self.assertRaises(InvalidAmount):
            payments.great_count(Lot((59, 60)), True)
        with self.assertRaises(TooMany):
            payments.great_count(Lot((59, 60)), 1)

    def test_few_sums(self):
        with self.assertRaises(InvalidNumber):
            singles.few_sums(Lot((5,)), 0)
        with self.assertRaises(NoEnd):
            singles.few_sums(Lot((5,)), 1)

    def test_is_single(self):
        for call in (singles.is_single, singles.other_payment):
            with self.assertRaises(InvalidPayment):
                call(ODD, (4000, 4000, -1))
            with self.assertRaises(TooMany):
                call(ODD, (4000, 4000, 1))

    def test_swaps(self):
        great = Lot((1, 2, 3, 4, 60))
        for call in (lambda: swaps.swap_at(great, (1, 1, 1, 1)), lambda: swaps.way(great, (0, 0, 0, 0, 1), (1, 0, 0, 0, 0)),
                     lambda: swaps.swapped(great, (0, 0, 0, 0), None)):
            with self.assertRaises(InvalidPayment):
                call()
        with self.assertRaises(InvalidDeal) as caught:
            swaps.swapped(great, (0, 0, 0, 0, 0), ((1, 0, 0, 0, 0), (1, 0, 0, 0, 0)))
        self.assertEqual(caught.exception.index, 0)
        with self.assertRaises(InvalidDeal) as caught:
            swaps.swapped(great, (0, 0, 0, 0, 0), ((2, 0, 0, 0, 0), (0, 1, 0, 0, 0)))
        self.assertEqual(caught.exception.index, 1)
        with self.assertRaises(TooMany) as caught:
            swaps.swapped(great, (2, 0, 0, 0, 0), ((2, 0, 0, 0, 0), (0, 1, 0, 0, 0)))
        self.assertEqual(caught.exception.given, 5)

    def test_least_and_most_payment(self):
        for call in (lengths.least_payment, lengths.most_payment):
            with self.assertRaises(InvalidAmount):
                call(Lot((60,)), 10 ** 30 + 1)
            with self.assertRaises(NotALot):
                call("60", 59)
            with self.assertRaises(Missed) as caught:
                call(Lot((60,)), 10 ** 30)
            self.assertEqual(caught.exception.given, 10 ** 30)

    def test_purses(self):
        for call in (purses.gap, purses.may_come):
            with self.assertRaises(InvalidNumber):
                call((), 12)
            with self.assertRaises(NotFull) as caught:
                call((), 11)
            self.assertEqual(caught.exception.given, ())
        with self.assertRaises(InvalidNumber):
            purses.full_purses(200, 12, 12)
        with self.assertRaises(TooMany):
            purses.full_purses(200, 12, 0)
        with self.assertRaises(NotFull):
            purses.may_come((2,) * 12, 0)

    def test_pots(self):
        many = ((2,) * 6, (2,) * 7)
        with self.assertRaises(InvalidPrice):
            pots.deal_for(*many, 10 ** 30 + 1)
        with self.assertRaises(TooMany) as caught:
            pots.deal_for(*many, 1)
        self.assertEqual(caught.exception.given, 13)
        with self.assertRaises(NotSettled) as caught:
            pots.deal_for(many[0], many[0], 1)
        self.assertEqual(caught.exception.given, 1)
        with self.assertRaises(InvalidDeal) as caught:
            pots.behind(*many, ((), (1,)))
        self.assertEqual(caught.exception.index, 1)
        with self.assertRaises(TooMany):
            pots.behind(*many, ((), (2,)))

    def test_queues_and_partings(self):
        with self.assertRaises(InvalidQueue) as caught:
            queues.plan((1,) * 12, (((1,), 1), ((1,), True)))
        self.assertEqual(caught.exception.index, 1)
        with self.assertRaises(InvalidNumber):
            partings.even_partings((1,) * 12, 0)
        with self.assertRaises(TooMany) as caught:
            partings.even_partings((1,) * 12, 1)
        self.assertEqual(caught.exception.given, 12)

    def test_naming(self):
        for call in (naming.is_won, naming.good_names, naming.end, naming.is_quiet, naming.game):
            with self.assertRaises(NoEnd) as caught:
                call(Lot((56, 60)))
            self.assertEqual(caught.exception.given, 4)
            with self.assertRaises(NotAStand) as caught:
                call(Lot((59, 60)))
            self.assertEqual(caught.exception.given, 1711)
        with self.assertRaises(InvalidNames):
            naming.named(Lot((56, 60)), (4, 4))

    def test_views(self):
        nothing = View((("missed", 12),))
        with self.assertRaises(InvalidAmount):
            views.sure(nothing, 401)
        with self.assertRaises(NoFit):
            views.sure(nothing, 400)
        with self.assertRaises(NotAView):
            views.sure((("missed", 12),), 401)

    def test_calls(self):
        for call in (calls.called_in, calls.lost_sums):
            with self.assertRaises(NoSuchCoin):
                call(Lot((60,)), 1)
            with self.assertRaises(NoEnd) as caught:
                call(Lot((60,)), 60)
            self.assertEqual(caught.exception.given, 60)
        for call in (calls.struck, calls.gained_sums):
            with self.assertRaises(InvalidCoin):
                call(Lot(tuple(range(4, 61, 4))), 61)
            with self.assertRaises(TooMany) as caught:
                call(Lot(tuple(range(4, 61, 4))), 59)
            self.assertEqual(caught.exception.given, 16)
        with self.assertRaises(NoEnd) as caught:
            calls.gained_sums(Lot((6, 10)), 3)
        self.assertEqual(caught.exception.given, 2)
        for call in (calls.kept_lots, calls.calling_orders):
            with self.assertRaises(InvalidAmounts):
                call(Lot(tuple(range(4, 61, 4))), (3, 3))
            with self.assertRaises(Missed):
                call(Lot(tuple(range(4, 61, 4))), (3, 4))
            with self.assertRaises(TooMany):
                call(Lot(tuple(range(4, 61, 4))), (4,))

    def test_counters(self):
        with self.assertRaises(InvalidPurse):
            Counter((1,) * 12, [1])
        full = Counter((1,) * 6, (1,) * 6)
        with self.assertRaises(InvalidNumber):
            full.put(1001)
        with self.assertRaises(TooMany):
            full.put(1000)
        with self.assertRaises(InvalidPrice):
            full.pay(10 ** 30 + 1)
        with self.assertRaises(NotSettled):
            full.pay(10 ** 30)

    def test_desks(self):
        desk = Desk()
        desk.put("mint", ODD)
        desk.promise(("mint", ("won",)))
        for call, error, value in ((lambda: desk.put("Mint", None), InvalidName, "Mint"),
                                   (lambda: desk.put("mint", None), NotAThing, None),
                                   (lambda: desk.put("mint", Lot((2, 3))), Broken, 0),
                                   (lambda: desk.drop("nobody"), UnknownName, "nobody"),
                                   (lambda: desk.drop("mint"), InUse, 0),
                                   (lambda: desk.promise(("within", "other", "nobody")), UnknownName, "other"),
                                   (lambda: desk.promise(("within", "mint", "nobody")), UnknownName, "nobody"),
                                   (lambda: desk.promise(("reach", "mint", "mint", 0)), Broken, 1)):
            with self.assertRaises(error) as caught:
                call()
            self.assertEqual(list(vars(caught.exception).values()), [value])
        self.assertEqual(desk.changes, 2)

    def test_certificates(self):
        many = Lot(tuple(range(4, 61, 4)))
        for call, error in ((lambda: certificates.certify_kept(many, (3, 3), None), InvalidAmounts),
                            (lambda: certificates.certify_kept(many, (3,), None), NotALot),
                            (lambda: certificates.certify_kept(many, (3,), many), Missed),
                            (lambda: certificates.certify_kept(many, (4,), many), TooMany),
                            (lambda: certificates.certify_price((1,) * 7, (1,) * 6, "1"), InvalidPrice),
                            (lambda: certificates.certify_price((1,) * 7, (1,) * 6, 1), TooMany),
                            (lambda: certificates.certify_stand(Lot((56, 60))), NoEnd),
                            (lambda: certificates.certify_quiet(Lot((59, 60))), NotAStand)):
            self.assertRaises(error, call)

    def test_no_end(self):
        for call in (lots.missed, lots.count_missed, lots.last_missed):
            with self.assertRaises(NotALot):
                call((6, 10))
            with self.assertRaises(NoEnd):
                call(Lot((6, 10)))

    def test_nth_payment_of_a_missed_sum(self):
        with self.assertRaises(InvalidAmount):
            payments.nth_payment(Lot((5, 8)), 401, 0)
        with self.assertRaises(InvalidNumber):
            payments.nth_payment(Lot((5, 8)), 27, 0)


class EdgesTest(unittest.TestCase):
    def test_the_limits_themselves_are_right(self):
        for amount in (0, 10 ** 30):
            self.assertIs(lots.is_paid(ODD, amount), True)
            payments.first_payment(ODD, amount)
            payments.last_payment(ODD, amount)
            payments.great_count(ODD, amount)
            for call in (lengths.least, lengths.most, lengths.least_payment, lengths.most_payment, backs.least_deal):
                call(ODD, amount)
            self.assertEqual(backs.least_moved(ODD, -amount), backs.least_moved(ODD, amount))
        for ways in (1, 4):
            singles.few_sums(ODD, ways)
        for small in (0, 400):
            payments.count_payments(ODD, small)
            payments.nth_payment(ODD, small, 0)
            self.assertEqual(len(payments.payments(Lot((59, 60)), small)), 1 if small == 0 else 0)
            self.assertEqual(lengths.lengths(Lot((59, 60)), small), (0,) if small == 0 else ())


if __name__ == "__main__":
    unittest.main()
