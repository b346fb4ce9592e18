"""mintlots.counters, [20], "Live" of [2]: purses that change hands, changes taken back, trials."""

import random
import unittest

from mintlots.counters import Counter
from mintlots.errors import (InvalidDeal, InvalidNumber, InvalidPrice, InvalidPurse, NoSuchPiece, NotSettled,
                             NothingToUndo, TooMany)
from mintlots.pots import behind, deal_for, pot, prices
from tests import plain_purses

NO_PIECE = (0, -1, 1001, 10 ** 99, None, True, False, "5", b"5", (), (5,), [5], {}, {5}, object())


class Trouble(Exception):
    """What only the tests raise."""


def state(counter):
    return counter.buyer, counter.seller, counter.changes


def all_states(counter):
    """The state and all that can be taken back, put back in the end by taking nothing back that stays so."""
    found = [state(counter)]
    try:
        with counter.trial():
            while counter.changes:
                counter.undo()
                found.append(state(counter))
            raise Trouble()
    except Trouble:
        pass
    return found


class CounterCase(unittest.TestCase):
    def refused(self, counter, call, error, value="none"):
        """The error is raised, with its attribute, and nothing has changed."""
        before = all_states(counter)
        with self.assertRaises(error) as caught:
            call()
        self.assertIs(type(caught.exception), error)
        if value != "none":
            self.assertEqual(list(vars(caught.exception).values()), [value])
        self.assertEqual(all_states(counter), before)


class MadeTest(CounterCase):
    def test_new_counters(self):
        for buyer, seller in (((), ()), ((4, 8), (1, 2)), ((1,) * 12, ()), ((), (1000,) * 12), ((1,) * 6, (2,) * 6)):
            counter = Counter(buyer, seller)
            self.assertEqual(state(counter), (buyer, seller, 0))
            self.assertEqual(state(Counter(seller=seller, buyer=buyer)), (buyer, seller, 0))
            self.refused(counter, counter.undo, NothingToUndo)

    def test_wrong_purses(self):
        for wrong in (None, True, 5, "4+8", [4, 8], {}, (8, 4), (0,), (1001,), (True,), (1,) * 13, ("1",), object()):
            for buyer, seller in ((wrong, (1,)), ((1,), wrong), (wrong, wrong), ((1,) * 12, wrong)):
                with self.assertRaises(InvalidPurse) as caught:
                    Counter(buyer, seller)
                self.assertIs(caught.exception.given, wrong)
        with self.assertRaises(TooMany) as caught:
            Counter((1,) * 6, (1,) * 7)
        self.assertEqual(caught.exception.given, 13)
        with self.assertRaises(TooMany) as caught:
            Counter((1,) * 12, (1,) * 12)
        self.assertEqual(caught.exception.given, 24)

    def test_equal_to_itself_alone(self):
        counter = Counter((4, 8), (1, 2))
        self.assertTrue(counter == counter)
        self.assertFalse(counter != counter)
        for other in (Counter((4, 8), (1, 2)), ((4, 8), (1, 2)), None, True, 0, "", [], object(), Counter):
            self.assertFalse(counter == other)
            self.assertTrue(counter != other)
        self.assertTrue(Counter((), ()))

    def test_properties_are_not_assigned(self):
        counter = Counter((4, 8), (1, 2))
        for name in ("buyer", "seller", "changes"):
            with self.assertRaises(AttributeError):
                setattr(counter, name, ())
        self.assertEqual(state(counter), ((4, 8), (1, 2), 0))


class DeedsTest(CounterCase):
    def test_settle(self):
        counter = Counter((4, 8), (1, 2))
        self.assertIsNone(counter.settle(((8,), (1, 2))))
        self.assertEqual(state(counter), ((1, 2, 4), (8,), 1))
        self.assertIsNone(counter.settle(deal=((1, 4), (8,))))
        self.assertEqual(state(counter), ((2, 8), (1, 4), 2))
        counter.settle(((), ()))
        self.assertEqual(state(counter), ((2, 8), (1, 4), 3))
        for deal, index in (((), None), (None, None), (((8,), (1,), ()), None), ([(8,), (1,)], None), (((8,), None), None),
                            (((8, 2), ()), None), (((4,), ()), 0), (((2, 2), (3,)), 0), (((2,), (3,)), 1),
                            (((), (1, 1)), 1), (((True,), ()), None), ("8 1", None)):
            self.refused(counter, lambda: counter.settle(deal), InvalidDeal, index)

    def test_pay(self):
        counter = Counter((4, 8), (1, 2))
        self.assertIsNone(counter.pay(5))
        self.assertEqual(state(counter), ((1, 2, 4), (8,), 1))
        self.assertIsNone(counter.pay(price=-8))
        self.assertEqual(state(counter), ((1, 2, 4, 8), (), 2))
        counter.pay(0)
        self.assertEqual(state(counter), ((1, 2, 4, 8), (), 3))
        for price in (16, -1, 10 ** 30, -10 ** 30):
            self.refused(counter, lambda: counter.pay(price), NotSettled, price)
        for price in (10 ** 30 + 1, -10 ** 30 - 1, None, True, "5", (5,), [5], 10 ** 99):
            self.refused(counter, lambda: counter.pay(price), InvalidPrice, price)

    def test_pay_is_the_deal_of_pots(self):
        for buyer in plain_purses.some_purses(31, 40, 6):
            for seller in ((), (1, 2), (3, 5, 10)):
                for price in prices(buyer, seller):
                    counter = Counter(buyer, seller)
                    counter.pay(price)
                    told = behind(buyer, seller, deal_for(buyer, seller, price))
                    self.assertEqual(state(counter), told + (1,))

    def test_swap(self):
        counter = Counter((4, 8), (1,))
        self.assertIsNone(counter.swap())
        self.assertEqual(state(counter), ((1,), (4, 8), 1))
        alike = Counter((5,), (5,))
        alike.swap()
        self.assertEqual(state(alike), ((5,), (5,), 1))

    def test_put(self):
        counter = Counter((4, 8), (1,))
        for piece in (1000, 1, 4, 6):
            self.assertIsNone(counter.put(piece))
        self.assertEqual(state(counter), ((1, 4, 4, 6, 8, 1000), (1,), 4))
        for wrong in NO_PIECE:
            self.refused(counter, lambda: counter.put(wrong), InvalidNumber, wrong)
        for piece in (2, 3, 5, 7, 9):
            counter.put(piece=piece)
        self.refused(counter, lambda: counter.put(1), TooMany, 13)
        self.refused(counter, lambda: counter.put(0), InvalidNumber, 0)
        counter.lose(1000)
        counter.put(1)
        self.assertEqual(counter.changes, 11)

    def test_lose(self):
        counter = Counter((1, 4, 4, 8), (2,))
        self.assertIsNone(counter.lose(4))
        self.assertEqual(state(counter), ((1, 4, 8), (2,), 1))
        counter.lose(piece=4)
        for wrong in NO_PIECE + (2, 4, 9):
            self.refused(counter, lambda: counter.lose(wrong), NoSuchPiece, wrong)
        counter.lose(1)
        counter.lose(8)
        self.assertEqual(state(counter), ((), (2,), 4))
        self.refused(counter, lambda: counter.lose(1), NoSuchPiece, 1)

    def test_undo(self):
        counter = Counter((4, 8), (1, 2))
        counter.pay(5)
        counter.put(3)
        counter.swap()
        self.assertIsNone(counter.undo())
        self.assertEqual(state(counter), ((1, 2, 3, 4), (8,), 2))
        counter.lose(3)
        self.assertEqual(counter.changes, 3)
        for known in (((1, 2, 3, 4), (8,), 2), ((1, 2, 4), (8,), 1), ((4, 8), (1, 2), 0)):
            counter.undo()
            self.assertEqual(state(counter), known)
        self.refused(counter, counter.undo, NothingToUndo)
        counter.put(1)
        self.assertEqual(counter.changes, 1)

    def test_purses_that_were_told_stay(self):
        counter = Counter((4, 8), (1, 2))
        buyer = counter.buyer
        counter.pay(5)
        self.assertEqual(buyer, (4, 8))

    def test_long_rows_of_changes(self):
        counter = Counter((1,), (2,))
        for _ in range(20000):
            counter.swap()
        self.assertEqual(state(counter), ((1,), (2,), 20000))
        while counter.changes > 1:
            counter.undo()
        self.assertEqual(state(counter), ((2,), (1,), 1))


class LiveTest(CounterCase):
    def test_what_the_deeds_have_led_to(self):
        source = random.Random(33)
        for _ in range(60):
            buyer = source.choice(plain_purses.some_purses(34, 30, 6))
            seller = source.choice(plain_purses.some_purses(35, 30, 5))
            counter = Counter(buyer, seller)
            past = [(buyer, seller)]
            for _ in range(25):
                self.step(counter, past, source)
                self.assertEqual(state(counter), past[-1] + (len(past) - 1,))
                self.assertLessEqual(len(pot(counter.buyer, counter.seller)), 12)
            self.assertEqual([one[:2] for one in all_states(counter)], past[::-1])

    def step(self, counter, past, source):
        buyer, seller = past[-1]
        kind = source.randrange(6)
        if kind == 0:
            counter.swap()
            past.append((seller, buyer))
        elif kind == 1:
            deal = source.choice(plain_purses.parts(buyer)), source.choice(plain_purses.parts(seller))
            counter.settle(deal)
            past.append(plain_purses.purses_behind(buyer, seller, deal))
        elif kind == 2 and len(buyer) + len(seller) < 12:
            piece = source.randint(1, 20)
            counter.put(piece)
            past.append((tuple(sorted(buyer + (piece,))), seller))
        elif kind == 3 and buyer:
            piece = source.choice(buyer)
            counter.lose(piece)
            past.append((plain_purses.without(buyer, (piece,)), seller))
        elif kind == 4 and len(past) > 1:
            counter.undo()
            past.pop()
        else:
            price = source.choice(prices(buyer, seller))
            counter.pay(price)
            past.append(behind(buyer, seller, deal_for(buyer, seller, price)))


class TrialTest(CounterCase):
    def test_an_exception_takes_all_back(self):
        counter = Counter((4, 8), (1, 2))
        counter.pay(5)
        before = all_states(counter)
        for kind in (Trouble, ValueError, KeyboardInterrupt, NothingToUndo):
            error = kind()
            with self.assertRaises(kind) as caught:
                with counter.trial() as held:
                    self.assertIs(held, counter)
                    counter.put(3)
                    counter.swap()
                    held.lose(8)
                    raise error
            self.assertIs(caught.exception, error)
            self.assertEqual(all_states(counter), before)

    def test_an_error_of_the_counter_takes_all_back(self):
        counter = Counter((4, 8), (1, 2))
        with self.assertRaises(NoSuchPiece) as caught:
            with counter.trial():
                counter.swap()
                counter.lose(9)
        self.assertEqual(caught.exception.given, 9)
        self.assertEqual(all_states(counter), [((4, 8), (1, 2), 0)])

    def test_without_an_exception_all_stays(self):
        counter = Counter((4, 8), (1, 2))
        with counter.trial() as held:
            held.pay(5)
            held.put(3)
        self.assertEqual(state(counter), ((1, 2, 3, 4), (8,), 2))
        for _ in range(3):
            with counter.trial():
                counter.swap()
                break
        self.assertEqual(counter.changes, 3)
        self.assertEqual(all_states(counter)[-1], ((4, 8), (1, 2), 0))

    def test_undo_within_a_trial(self):
        counter = Counter((4, 8), (1, 2))
        counter.swap()
        counter.put(7)
        before = all_states(counter)
        with self.assertRaises(Trouble):
            with counter.trial():
                counter.undo()
                counter.undo()
                counter.put(9)
                raise Trouble()
        self.assertEqual(all_states(counter), before)
        with self.assertRaises(NothingToUndo):
            with counter.trial():
                for _ in range(3):
                    counter.undo()
        self.assertEqual(all_states(counter), before)
        with counter.trial():
            counter.undo()
        self.assertEqual(all_states(counter), before[1:])

    def test_trials_within_trials(self):
        counter = Counter((4, 8), (1, 2))
        with counter.trial():
            counter.put(1)
            with self.assertRaises(Trouble):
                with counter.trial():
                    counter.put(2)
                    with counter.trial():
                        counter.put(3)
                    self.assertEqual(counter.buyer, (1, 2, 3, 4, 8))
                    raise Trouble()
            self.assertEqual(state(counter), ((1, 4, 8), (1, 2), 1))
            counter.put(5)
        self.assertEqual(state(counter), ((1, 4, 5, 8), (1, 2), 2))
        with self.assertRaises(Trouble):
            with counter.trial():
                with counter.trial():
                    counter.swap()
                raise Trouble()
        self.assertEqual(state(counter), ((1, 4, 5, 8), (1, 2), 2))

    def test_one_trial_in_several_statements(self):
        counter = Counter((4, 8), (1, 2))
        trial = counter.trial()
        counter.put(1)
        with self.assertRaises(Trouble):
            with trial:
                counter.put(2)
                raise Trouble()
        self.assertEqual(state(counter), ((1, 4, 8), (1, 2), 1))
        with trial:
            counter.put(3)
            with self.assertRaises(Trouble):
                with trial as held:
                    held.put(5)
                    raise Trouble()
            self.assertEqual(state(counter), ((1, 3, 4, 8), (1, 2), 2))
        with self.assertRaises(Trouble):
            with trial:
                with trial:
                    counter.swap()
                counter.swap()
                raise Trouble()
        self.assertEqual(state(counter), ((1, 3, 4, 8), (1, 2), 2))

    def test_a_call_alone_changes_nothing(self):
        counter = Counter((4, 8), (1, 2))
        counter.trial()
        counter.pay(5)
        counter.trial()
        self.assertEqual(state(counter), ((1, 2, 4), (8,), 1))
        self.assertIsNone(counter.undo())

    def test_counters_do_not_meet(self):
        one = Counter((4, 8), (1, 2))
        other = Counter((4, 8), (1, 2))
        with self.assertRaises(Trouble):
            with one.trial():
                other.pay(5)
                one.swap()
                raise Trouble()
        self.assertEqual((state(one), state(other)), (((4, 8), (1, 2), 0), ((1, 2, 4), (8,), 1)))


class TriedTest(CounterCase):
    def test_what_the_function_returns(self):
        counter = Counter((4, 8), (1, 2))
        for value in (None, 0, (), "told", [5], counter):
            self.assertIs(counter.tried(lambda held: value), value)
        self.assertIs(counter.tried(action=lambda held: held), counter)
        self.assertEqual(counter.tried(lambda held: (held.pay(5), held.buyer)), (None, (1, 2, 4)))
        self.assertEqual(counter.changes, 1)

    def test_an_exception_takes_all_back(self):
        counter = Counter((4, 8), (1, 2))
        counter.pay(5)

        def act(held):
            held.swap()
            held.undo()
            held.undo()
            held.put(9)
            held.lose(1000)

        before = all_states(counter)
        with self.assertRaises(NoSuchPiece):
            counter.tried(act)
        self.assertEqual(all_states(counter), before)

    def test_within_each_other(self):
        counter = Counter((4, 8), (1, 2))

        def wrong(held):
            held.swap()
            raise Trouble()

        def right(held):
            held.put(5)
            try:
                held.tried(wrong)
            except Trouble:
                held.put(6)
            return held.changes

        self.assertEqual(counter.tried(right), 2)
        self.assertEqual(state(counter), ((4, 5, 6, 8), (1, 2), 2))


class PotTest(unittest.TestCase):
    def test_the_pot_stays_behind_each_deal(self):
        for buyer in plain_purses.some_purses(36, 30, 6):
            for seller in ((), (1,), (2, 5, 5)):
                for price in prices(buyer, seller):
                    counter = Counter(buyer, seller)
                    counter.pay(price)
                    self.assertEqual(pot(counter.buyer, counter.seller), pot(buyer, seller))
                    self.assertEqual(sum(counter.buyer), sum(buyer) - price)
                    self.assertEqual(len(prices(counter.buyer, counter.seller)), len(prices(buyer, seller)))


if __name__ == "__main__":
    unittest.main()
