"""mintlots.console: each command beside the function that it stands for; what is no command."""

import unittest

from mintlots.console import Console
from mintlots.counters import Counter
from mintlots.errors import (InvalidAmount, InvalidCommand, InvalidDeal, InvalidNumber, InvalidPurse, NoEnd, NoSuchPiece,
                             NotAStand, NothingToUndo, NotSettled, TooMany)
from mintlots.lengths import least, most
from mintlots.lots import Lot, missed
from mintlots.naming import good_names, is_won
from mintlots.payments import count_payments
from mintlots.pots import deal_for, pot, prices, reach, ways_to_settle
from mintlots.purses import as_text, held, is_full
from tests import plain, plain_purses
from tests.odd import Odd

RIGHT = ("pay 5", "pay -2", "pay 0", "settle 8 1+2", "settle - -", "swap", "put 7", "put 1000", "lose 4", "undo", "buyer",
         "seller", "pot", "reach", "ways 5", "ways -3", "ways 99999", "ways -99999", "deal 5", "deal 0", "full 0", "full 11",
         "prices", "held", "least 29 3,5,7", "most 0 1", "payments 400 59,60", "missed 5,8", "won 1", "good 4,5")

WRONG = (
    "", " ", "pay", "pay ", "pay  5", " pay 5", "pay 5 ", "pay 5 5", "pay 05", "pay -0", "pay 00", "pay +5", "pay --5", "pay -",
    "pay - 5", "pay 5-", "pay 100000", "pay -100000", "pay -05", "pay 5.0", "pay five", "pay 1_0", "pay\n5", "pay 5\n", "Pay 5",
    "PAY 5", "pays 5", "pay,5", "settle", "settle 8", "settle 8 1+2 -", "settle 8  1+2", "settle 8+4 -", "settle 0 -",
    "settle - 1+", "settle -- -", "settle 1001 -", "settle 08 -", "settle " + "+".join(["1"] * 13) + " -", "settle 8 1 + 2",
    "swap 1", "swap ", "put", "put -1", "put 01", "put 100000", "put 1 2", "put x", "put -0", "lose", "lose -4", "lose 04",
    "lose 4+4", "undo 1", "undone", "buyer 1", "buyers", "seller ", "pot 0", "reach 1", "ways", "ways x", "ways 1 2", "deal",
    "deal 5 5", "full", "full -1", "full 00", "full 0 1", "prices 1", "held 1", "holds", "least", "least 29", "least 29 3 5 7",
    "least 3,5,7 29", "least -1 5,8", "least 029 5,8", "least 29 8,5", "least 29 5,5", "least 29 0,5", "least 29 5,61",
    "least 29 5,,8", "least 29 ,5", "least 29 5,", "least 29 05,8", "least 29 ,", "least 100000 5,8", "most 29", "most x 5",
    "most 29 5;8", "payments 5", "payments 5 5,8 1", "payments -5 5,8", "missed", "missed 5 8", "missed 8,5", "missed 5,8 1",
    "missed " + ",".join(map(str, range(1, 17))), "won", "won 5,x", "won x", "good", "good ,", "good 5, 8", "help", "trial",
    "undo undo", "none", "ok", "5", "-", "pay \t5", "pay 5 # rest", "pay" * 1000, "pay " + "1" * 3900, "9" * 4000,
)


NO_TEXT = (None, True, False, 0, 5, 10 ** 99, b"pay 5", ("pay", 5), ["pay 5"], {"pay": 5}, {5}, (), [], object(), Odd(), Lot((5, 8)),
           Counter((), ()), len, Console)


def state(console):
    return console.counter.buyer, console.counter.seller, console.counter.changes


class ConsoleCase(unittest.TestCase):
    def refused(self, console, command, error, value):
        before = state(console)
        with self.assertRaises(error) as caught:
            console.say(command)
        self.assertIs(type(caught.exception), error)
        self.assertEqual(list(vars(caught.exception).values()), [value])
        self.assertEqual(state(console), before)


class CounterTest(ConsoleCase):
    def test_a_new_console(self):
        for buyer, seller in (((), ()), ((4, 8), (1, 2)), ((1,) * 12, ())):
            self.assertEqual(state(Console(buyer, seller)), (buyer, seller, 0))
            self.assertEqual(state(Console(seller=seller, buyer=buyer)), (buyer, seller, 0))
        for wrong in (None, "4+8", [4, 8], (8, 4), (0,), (True,), (1,) * 13):
            for buyer, seller in ((wrong, ()), ((), wrong), (wrong, None)):
                with self.assertRaises(InvalidPurse) as caught:
                    Console(buyer, seller)
                self.assertIs(caught.exception.given, wrong)
        with self.assertRaises(TooMany) as caught:
            Console((1,) * 6, (1,) * 7)
        self.assertEqual(caught.exception.given, 13)

    def test_the_counter(self):
        console = Console((4, 8), (1, 2))
        counter = console.counter
        self.assertIs(type(counter), Counter)
        console.say("pay 5")
        self.assertIs(console.counter, counter)
        self.assertEqual((counter.buyer, counter.changes), ((1, 2, 4), 1))
        counter.put(7)
        self.assertEqual(console.say("buyer"), "1+2+4+7")
        self.assertEqual(console.say("undo"), "ok")
        self.assertEqual(counter.buyer, (1, 2, 4))
        with self.assertRaises(AttributeError):
            console.counter = counter

    def test_what_is_done(self):
        console = Console((4, 8), (1, 2))
        for command, known in (("pay 5", ((1, 2, 4), (8,), 1)), ("pay -8", ((1, 2, 4, 8), (), 2)), ("pay 0", ((1, 2, 4, 8), (), 3)),
                               ("settle 8+8 -", None), ("settle 4+8 -", ((1, 2), (4, 8), 4)), ("swap", ((4, 8), (1, 2), 5)),
                               ("put 1000", ((4, 8, 1000), (1, 2), 6)), ("lose 8", ((4, 1000), (1, 2), 7)),
                               ("undo", ((4, 8, 1000), (1, 2), 6)), ("settle - -", ((4, 8, 1000), (1, 2), 7)),
                               ("settle 4+1000 1+2", ((1, 2, 8), (4, 1000), 8)), ("put 8", ((1, 2, 8, 8), (4, 1000), 9))):
            if known is None:
                self.refused(console, command, InvalidDeal, 0)
                continue
            self.assertEqual(console.say(command=command), "ok")
            self.assertEqual(state(console), known)

    def test_errors_of_what_is_called(self):
        console = Console((4, 8), (1, 2))
        for command, error, value in (
                ("pay 13", NotSettled, 13), ("pay -99999", NotSettled, -99999), ("deal 13", NotSettled, 13),
                ("settle 4+4 -", InvalidDeal, 0), ("settle 4 8", InvalidDeal, 1), ("put 0", InvalidNumber, 0),
                ("put 1001", InvalidNumber, 1001), ("put 99999", InvalidNumber, 99999), ("lose 9", NoSuchPiece, 9),
                ("lose 0", NoSuchPiece, 0), ("undo", NothingToUndo, None), ("full 12", InvalidNumber, 12),
                ("full 99999", InvalidNumber, 99999), ("payments 401 5,8", InvalidAmount, 401), ("missed 6,10", NoEnd, 2),
                ("won 6,10", NoEnd, 2), ("won 59,60", NotAStand, 1711), ("good 60", NoEnd, 60), ("good 4,11", NotAStand, 15)):
            if value is None:
                with self.assertRaises(error):
                    console.say(command)
                continue
            self.refused(console, command, error, value)
        full = Console((1,) * 12, ())
        self.refused(full, "put 5", TooMany, 13)


class AnswersTest(ConsoleCase):
    def test_of_the_counter(self):
        for buyer in plain_purses.some_purses(71, 40, 7):
            for seller in ((), (1, 2), (3, 5, 10)):
                console = Console(buyer, seller)
                both = pot(buyer, seller)
                settled = prices(buyer, seller)
                known = {"buyer": as_text(buyer), "seller": as_text(seller), "pot": as_text(both),
                         "reach": str(reach(buyer, seller)), "prices": " ".join(map(str, settled)),
                         "held": " ".join(map(str, held(buyer)))}
                for price in (-3, 0, 1, 5, 17, settled[-1], settled[0]):
                    known[f"ways {price}"] = str(ways_to_settle(buyer, seller, price))
                    if price in settled:
                        known[f"deal {price}"] = " ".join(map(as_text, deal_for(buyer, seller, price)))
                for lost in range(12):
                    known[f"full {lost}"] = "yes" if is_full(both, lost) else "no"
                for command, answer in known.items():
                    self.assertEqual(console.say(command), answer)
                self.assertEqual(state(console), (buyer, seller, 0))

    def test_of_lots(self):
        console = Console((), ())
        for coins in plain.TRIED_COINS:
            lot = Lot(coins)
            text = ",".join(map(str, coins))
            for amount in (0, 1, 27, 60, 400, 99999):
                for word, number in (("least", least(lot, amount)), ("most", most(lot, amount))):
                    self.assertEqual(console.say(f"{word} {amount} {text}"), "none" if number is None else str(number))
                if amount <= 400:
                    self.assertEqual(console.say(f"payments {amount} {text}"), str(count_payments(lot, amount)))
            if plain.common_divisor(coins) == 1:
                sums = missed(lot)
                self.assertEqual(console.say(f"missed {text}"), " ".join(map(str, sums)) if sums else "none")
                if len(sums) <= 14:
                    self.assertEqual(console.say(f"won {text}"), "yes" if is_won(lot) else "no")
                    good = good_names(lot)
                    self.assertEqual(console.say(f"good {text}"), " ".join(map(str, good)) if good else "none")

    def test_known_answers(self):
        console = Console((4, 8), (1, 2))
        for command, answer in (("deal 5", "8 1+2"), ("pay 5", "ok"), ("buyer", "1+2+4"), ("seller", "8"), ("reach", "7"),
                                ("undo", "ok"), ("full 0", "yes"), ("full 1", "no"), ("least 29 3,5,7", "5"),
                                ("most 29 3,5,7", "9"), ("good 4,5", "11"), ("good 2,3", "none"), ("good 1", "none"),
                                ("ways -3", "1"), ("ways 99999", "0"), ("missed 1,5", "none"), ("missed 3,5,7", "1 2 4"),
                                ("won 2,3", "no"), ("won 1", "yes"), ("least 27 5,8", "none"), ("payments 15 3,5,7", "3"),
                                ("prices", "-3 -2 -1 0 1 2 3 4 5 6 7 8 9 10 11 12"), ("held", "0 4 8 12"), ("deal 0", "- -"),
                                ("deal -3", "- 1+2"), ("pot", "1+2+4+8")):
            self.assertEqual(console.say(command), answer)
        empty = Console((), ())
        for command, answer in (("buyer", "-"), ("pot", "-"), ("prices", "0"), ("held", "0"), ("reach", "0"), ("full 0", "no")):
            self.assertEqual(empty.say(command), answer)


class NoCommandTest(ConsoleCase):
    def test_right_forms(self):
        for command in RIGHT:
            try:
                answer = Console((4, 8), (1, 2)).say(command)
            except (NothingToUndo, NotSettled):
                continue
            self.assertIs(type(answer), str)

    def test_wrong_forms(self):
        console = Console((4, 8), (1, 2))
        console.say("swap")
        for command in WRONG:
            with self.subTest(command=command[:40]):
                self.refused(console, command, InvalidCommand, command)

    def test_right_forms_changed_in_one_place(self):
        console = Console((4, 8), (1, 2))
        for command in RIGHT:
            for at in range(len(command) + 1):
                self.refused(console, command[:at] + " " + command[at:], InvalidCommand, command[:at] + " " + command[at:])
                self.refused(console, command[:at] + "x" + command[at:], InvalidCommand, command[:at] + "x" + command[at:])
            self.refused(console, command + " 1", InvalidCommand, command + " 1")
            self.refused(console, command + "\n", InvalidCommand, command + "\n")
            self.refused(console, command.upper(), InvalidCommand, command.upper())

    def test_other_values(self):
        console = Console((4, 8), (1, 2))
        for command in NO_TEXT:
            with self.assertRaises(InvalidCommand) as caught:
                console.say(command)
            self.assertIs(caught.exception.given, command)
        self.assertEqual(state(console), ((4, 8), (1, 2), 0))

    def test_numbers(self):
        console = Console((), ())
        for number in (0, 1, 9, 10, 99, 100, 999, 1000, 9999, 10000, 99999):
            self.assertEqual(console.say(f"ways {number}"), "1" if number == 0 else "0")
            if number:
                self.assertEqual(console.say(f"ways -{number}"), "0")
            self.assertEqual(console.say(f"least {number} 1"), str(number))
            for text in (f"0{number}", f"+{number}", f"{number}0000", f"{number}.", f"--{number}"):
                if text != "00000" and len(text) > 5 or text[0] in "0+-" or "." in text:
                    self.refused(console, f"ways {text}", InvalidCommand, f"ways {text}")


if __name__ == "__main__":
    unittest.main()
