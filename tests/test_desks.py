"""[27], mintlots.desks: things and promises, what is refused, changes taken back, trials."""

import random
import unittest

from mintlots.desks import Desk, played
from mintlots.errors import (Broken, InUse, InvalidName, InvalidNumber, InvalidWish, NotAThing, NothingToUndo,
                             UnknownName)
from mintlots.lots import Lot
from mintlots.views import View
from tests import plain, plain_claims, plain_purses
from tests.odd import Same

FEW = Lot((5, 8))
ODD = Lot((3, 5, 7))

NO_NAME = ("", "A", "aB", "ninechars", "a b", " a", "a1", "a-b", "abcdefghi", "a\n", None, True, 0, 5, b"a", (), ("a",),
           ["a"], {"a": 1}, {"a"}, object(), FEW)

NO_THING = (None, True, 0, 5, "5 8", "lot 5 8", [], [1, 2], {}, (2, 1), (0,), (1001,), (1,) * 13, (True,), ("1",), (FEW,),
            View(()), object(), Lot)

NO_WISH = (None, True, 5, "won", [], {}, (), ("won",), ("mint",), ("mint", "won"), ("mint", ("Won",)), ("mint", ["won"]),
           ("mint", ("won", 1)), ("mint", ()), ("mint", (None,)), ("mint", (["won"],)), ("mint", ("pays",)),
           ("mint", ("pays", -1)), ("mint", ("pays", 401)), ("mint", ("pays", True)), ("mint", ("pays", None)),
           ("mint", ("pays", 5, 1)), ("mint", ("misses", "5")), ("mint", ("ways", 5)), ("mint", ("ways", 5, -1)),
           ("mint", ("ways", 401, 1)), ("mint", ("ways", 5, False)), ("mint", ("least", 5)), ("mint", ("least", 5, 1, 1)),
           ("mint", ("most", -1, 1)), ("mint", ("last",)), ("mint", ("last", -1)), ("mint", ("last", None)),
           ("mint", ("holds", 5)), ("mint", ("holds", 401, 0)), ("mint", ("full", -1)), ("mint", ("full", (1,))),
           ("mint", ("paid", 5)), ["mint", ("won",)], ("mint", ("won",), 1), ("mint", "bag"), ("within", "mint"),
           ("within", "mint", "mint", 0), ("alike", "mint", "mint", "mint"), ("alike",), ("reach", "bag", "bag"),
           ("reach", "bag", "bag", -1), ("reach", "bag", "bag", True), ("reach", "bag", "bag", None),
           ("reach", "bag", "bag", 1, 1), ("Within", "mint", "mint"), (None, "mint", "mint"), (["within"], "mint", "mint"),
           ("is", "mint", "mint"), (["mint"], ("won",)), ({}, ("won",)), ([], ("won",)), ("within", ["mint"], "mint"),
           ("within", "mint", {}), ("alike", [], []), ("reach", ["bag"], "bag", 1), ("reach", "bag", {"bag": 1}, 1),
           ["within", "mint", "mint"], FEW, object())


class Trouble(Exception):
    """What only the tests raise."""


def state(desk):
    return [(name, desk.named(name)) for name in desk.names], desk.promises, desk.changes, desk.log, len(desk)


class DeskCase(unittest.TestCase):
    def desk(self):
        desk = Desk()
        desk.put("mint", ODD)
        desk.put("bag", (1, 1, 2, 3))
        return desk

    def refused(self, desk, call, error, *values):
        """The error is raised, with its attribute, and nothing has changed."""
        before = state(desk)
        with self.assertRaises(error) as caught:
            call()
        self.assertIs(type(caught.exception), error)
        told = list(vars(caught.exception).values())
        self.assertEqual(len(told), len(values))
        for one, other in zip(told, values):
            self.assertIs(one, other)
        self.assertEqual(state(desk), before)


class ThingsTest(DeskCase):
    def test_a_new_desk(self):
        desk = Desk()
        self.assertEqual((desk.names, desk.promises, desk.changes, desk.log, len(desk)), ((), (), 0, (), 0))
        self.assertTrue(desk)
        self.assertTrue(bool(desk))
        self.refused(desk, desk.undo, NothingToUndo)
        self.assertRaises(TypeError, Desk, 1)

    def test_equal_to_itself_alone(self):
        desk = Desk()
        self.assertTrue(desk == desk)
        for other in (Desk(), (), None, False, 0, "", [], {}, object(), Desk):
            self.assertFalse(desk == other)
            self.assertTrue(desk != other)

    def test_names(self):
        desk = Desk()
        for name in ("z", "a", "mint", "abcdefgh", "zzzzzzzz", "aa"):
            self.assertIsNone(desk.put(name, FEW))
        self.assertEqual(desk.names, ("a", "aa", "abcdefgh", "mint", "z", "zzzzzzzz"))
        self.assertEqual(len(desk), 6)
        for name in NO_NAME:
            self.refused(desk, lambda: desk.put(name, FEW), InvalidName, name)
            self.refused(desk, lambda: desk.put(name, None), InvalidName, name)

    def test_things(self):
        desk = self.desk()
        self.assertIs(desk.named("mint"), ODD)
        self.assertEqual(desk.named(name="bag"), (1, 1, 2, 3))
        for thing in NO_THING:
            self.refused(desk, lambda: desk.put("mint", thing), NotAThing, thing)
            self.refused(desk, lambda: desk.put("new", thing), NotAThing, thing)
        for thing in (FEW, (), (1000,) * 12, Lot(tuple(range(1, 16))), (7,)):
            desk.put(thing=thing, name="mint")
            self.assertEqual(desk.named("mint"), thing)
        self.assertEqual((len(desk), desk.changes), (2, 7))

    def test_unknown_names(self):
        desk = self.desk()
        for name in NO_NAME + ("other", "min", "mints", Same()):
            self.refused(desk, lambda: desk.named(name), UnknownName, name)
            self.refused(desk, lambda: desk.drop(name), UnknownName, name)

    def test_drop(self):
        desk = self.desk()
        self.assertIsNone(desk.drop("mint"))
        self.assertEqual((desk.names, len(desk)), (("bag",), 1))
        self.refused(desk, lambda: desk.drop("mint"), UnknownName, "mint")
        desk.drop(name="bag")
        self.assertEqual((desk.names, len(desk), desk.changes), ((), 0, 4))
        self.assertTrue(desk)

    def test_in_use(self):
        desk = self.desk()
        desk.put("few", FEW)
        desk.put("till", (1, 2))
        desk.promise(("bag", ("full", 1)))
        desk.promise(("within", "few", "mint"))
        desk.promise(("mint", ("won",)))
        desk.promise(("reach", "till", "bag", 2))
        for name, index in (("bag", 0), ("few", 1), ("mint", 1), ("till", 3)):
            self.refused(desk, lambda: desk.drop(name), InUse, index)
        desk.lift(1)
        desk.drop("few")
        self.refused(desk, lambda: desk.drop("mint"), InUse, 1)

    def test_properties_are_not_assigned(self):
        desk = self.desk()
        for name in ("names", "promises", "changes", "log"):
            with self.assertRaises(AttributeError):
                setattr(desk, name, ())


class WishesTest(DeskCase):
    def holds(self, thing, wish):
        """Whether a promise of the wish is taken; if not, it is Broken, and nothing else."""
        desk = Desk()
        desk.put("a", thing)
        try:
            desk.promise(("a", wish))
        except Broken as error:
            self.assertEqual((error.index, desk.promises, desk.changes), (0, (), 1))
            return False
        self.assertEqual((desk.promises, desk.changes), ((("a", wish),), 2))
        return True

    def test_lots_pay_and_miss(self):
        for coins in plain.TRIED_COINS[::3]:
            for amount in (0, 1, 5, 12, 27, 60, 399, 400):
                self.assertIs(self.holds(Lot(coins), ("pays", amount)), plain.pays(coins, amount))
                self.assertIs(self.holds(Lot(coins), ("misses", amount)), not plain.pays(coins, amount))

    def test_ways_and_lengths(self):
        for coins in plain.TRIED_COINS[::3]:
            for amount in (0, 1, 12, 27, 60, 399, 400):
                number = plain.number_of_payments(coins, amount)
                for other in (number, number + 1, 0, 10 ** 50):
                    self.assertIs(self.holds(Lot(coins), ("ways", amount, other)), other == number)
                for kind, word in enumerate(("least", "most")):
                    number = plain_claims.length(coins, amount, kind)
                    for other in (0, 1, 2, 60, 10 ** 50) + (() if number is None else (number, number + 1)):
                        self.assertIs(self.holds(Lot(coins), (word, amount, other)), other == number)

    def test_last(self):
        for coins in plain.TRIED_COINS:
            known = max(plain.missed_of(coins), default=0) if plain.common_divisor(coins) == 1 else None
            for number in (0, 1, 27, 10 ** 30) + (() if known is None else (known, known + 1)):
                self.assertIs(self.holds(Lot(coins), ("last", number)), number == known)

    def test_won(self):
        for coins in plain.TRIED_COINS + ((2, 3), (4, 5), (5, 8), (3, 4, 5), (1, 7), (4, 11), (6, 9, 11, 13)):
            self.assertIs(self.holds(Lot(coins), ("won",)), plain_claims.claim_holds(("won", str(Lot(coins)))))

    def test_purses(self):
        for purse in plain_purses.some_purses(61, 40, 8, (2, 3, 5, 40)) + [(1,) * 12, (1000,) * 12]:
            parts = plain_purses.parts(purse)
            for amount in (0, 1, 3, 7, 12, 40, 400):
                number = len([part for part in parts if sum(part) == amount])
                for other in (number, number + 1, 0, 10 ** 50):
                    self.assertIs(self.holds(purse, ("holds", amount, other)), other == number)
            for lost in range(12):
                self.assertIs(self.holds(purse, ("full", lost)), plain_purses.full(purse, lost))
            for lost in (12, 13, 10 ** 50):
                self.assertIs(self.holds(purse, ("full", lost)), False)

    def test_things_of_the_other_kind(self):
        for wish in (("pays", 0), ("misses", 1), ("ways", 0, 1), ("least", 0, 0), ("most", 0, 0), ("last", 0), ("won",)):
            for purse in ((), (1,), (5, 8)):
                self.assertIs(self.holds(purse, wish), False)
        for wish in (("holds", 0, 1), ("holds", 1, 0), ("full", 0)):
            for coins in ((1,), (5, 8)):
                self.assertIs(self.holds(Lot(coins), wish), False)


class BondsTest(DeskCase):
    def holds(self, one, other, word, *numbers):
        desk = Desk()
        desk.put("a", one)
        desk.put("b", other)
        promise = (word, "a", "b") + numbers
        try:
            desk.promise(promise)
        except Broken as error:
            self.assertEqual((error.index, desk.promises, desk.changes), (0, (), 2))
            return False
        self.assertEqual(desk.promises, (promise,))
        return True

    def test_within_and_alike(self):
        seen = {True: 0, False: 0}
        for coins in plain.EDGE_COINS:
            for other in plain.EDGE_COINS + (coins + (60,),):
                if other != tuple(sorted(set(other))) or len(other) > 15:
                    continue
                within = all(plain.pays(other, coin) for coin in coins)
                alike = plain.lean_of(coins) == plain.lean_of(other)
                seen[within] += 1
                self.assertIs(self.holds(Lot(coins), Lot(other), "within"), within)
                self.assertIs(self.holds(Lot(coins), Lot(other), "alike"), alike)
        self.assertGreater(min(seen.values()), 40)

    def test_reach(self):
        for buyer in plain_purses.some_purses(62, 25, 8, (2, 3, 5)):
            for seller in ((), (1,), (1, 2), (5, 10), (1, 2, 4, 8)):
                if len(buyer + seller) > 12:
                    continue
                settled = plain_purses.all_prices(buyer, seller)
                reach = 0
                while reach + 1 in settled:
                    reach += 1
                for number in (0, 1, reach, reach + 1, 10 ** 50):
                    self.assertIs(self.holds(buyer, seller, "reach", number), number <= reach)

    def test_reach_of_too_many_pieces(self):
        self.assertIs(self.holds((1,) * 6, (1,) * 6, "reach", 6), True)
        self.assertIs(self.holds((1,) * 6, (1,) * 7, "reach", 6), False)
        self.assertIs(self.holds((1,) * 12, (1,), "reach", 0), False)
        desk = Desk()
        desk.put("a", (1,) * 6)
        desk.promise(("reach", "a", "a", 6))
        self.refused(desk, lambda: desk.put("a", (1,) * 7), Broken, 0)
        desk.put("a", (1, 1, 2, 3))
        self.refused(desk, lambda: desk.promise(("reach", "a", "a", 8)), Broken, 1)

    def test_things_of_other_kinds(self):
        for word in ("within", "alike"):
            for one, other in ((FEW, (5, 8)), ((5, 8), FEW), ((5, 8), (5, 8)), ((), ())):
                self.assertIs(self.holds(one, other, word), False)
        for one, other in ((FEW, (5, 8)), ((5, 8), FEW), (FEW, FEW)):
            self.assertIs(self.holds(one, other, "reach", 0), False)

    def test_one_name_twice(self):
        desk = self.desk()
        for promise in (("within", "mint", "mint"), ("alike", "mint", "mint"), ("reach", "bag", "bag", 7)):
            desk.promise(promise)
        self.assertEqual(len(desk.promises), 3)
        self.refused(desk, lambda: desk.put("mint", ()), Broken, 0)


class PromisesTest(DeskCase):
    def test_no_promises(self):
        desk = self.desk()
        for wish in NO_WISH:
            with self.subTest(wish=wish):
                self.refused(desk, lambda: desk.promise(wish), InvalidWish, wish)

    def test_names_that_are_not_there(self):
        desk = self.desk()
        for name in ("other", "", "MINT", None, True, 5, b"mint", (), ("mint",), (["mint"],), FEW, Same(), object(), {1}):
            self.refused(desk, lambda: desk.promise((name, ("won",))), UnknownName, name)
            self.refused(desk, lambda: desk.promise((name, ("full", 99))), UnknownName, name)
            self.refused(desk, lambda: desk.promise(("within", name, "mint")), UnknownName, name)
            self.refused(desk, lambda: desk.promise(("alike", "mint", name)), UnknownName, name)
            self.refused(desk, lambda: desk.promise(("within", name, "nobody")), UnknownName, name)
            self.refused(desk, lambda: desk.promise(("reach", name, None, 3)), UnknownName, name)
            self.refused(desk, lambda: desk.promise(("reach", "bag", name, 3)), UnknownName, name)
            self.refused(desk, lambda: desk.promise(("reach", "mint", name, 3)), UnknownName, name)

    def test_broken_promises_of_a_put(self):
        desk = self.desk()
        desk.put("few", FEW)
        for promise in (("bag", ("full", 1)), ("mint", ("last", 4)), ("mint", ("pays", 8)), ("within", "few", "mint"),
                        ("few", ("ways", 40, 2)), ("mint", ("least", 7, 1))):
            self.assertIsNone(desk.promise(promise))
        before = state(desk)
        for name, thing, index in (("mint", FEW, 1), ("mint", Lot((3, 5)), 1), ("mint", Lot((3, 7)), 1), ("mint", (1,), 1),
                                   ("mint", Lot((3, 5, 7, 60)), None), ("few", Lot((5,)), 4), ("few", Lot((4,)), 3),
                                   ("few", ODD, 4), ("few", (5, 8), 3), ("bag", (1, 2, 4), 0), ("bag", FEW, 0),
                                   ("bag", (1, 1, 1, 1), None), ("new", (2,), None)):
            if index is not None:
                self.refused(desk, lambda: desk.put(name, thing), Broken, index)
                continue
            desk.put(name, thing)
            self.assertEqual(desk.named(name), thing)
            desk.undo()
            self.assertEqual(state(desk), before)

    def test_broken_promises_in_their_order(self):
        desk = self.desk()
        for promise in (("mint", ("pays", 3)), ("mint", ("pays", 5)), ("mint", ("pays", 7)), ("mint", ("misses", 4))):
            desk.promise(promise)
        for coins, index in (((4, 5, 7), 0), ((3, 7), 1), ((3, 5), 2), ((3, 4, 5, 7), 3), ((3, 4), 1)):
            self.refused(desk, lambda: desk.put("mint", Lot(coins)), Broken, index)
        self.refused(desk, lambda: desk.promise(("mint", ("pays", 4))), Broken, 4)
        self.refused(desk, lambda: desk.promise(("mint", ("full", 0))), Broken, 4)
        self.refused(desk, lambda: desk.promise(("alike", "mint", "bag")), Broken, 4)

    def test_the_same_promise_twice(self):
        desk = self.desk()
        desk.promise(("mint", ("won",)))
        desk.promise(wish=("mint", ("won",)))
        self.assertEqual(desk.promises, (("mint", ("won",)),) * 2)
        desk.lift(0)
        self.assertEqual(desk.promises, (("mint", ("won",)),))

    def test_lift(self):
        desk = self.desk()
        for promise in (("mint", ("pays", 3)), ("bag", ("full", 0)), ("mint", ("won",))):
            desk.promise(promise)
        for index in (3, -1, -3, 10 ** 99, None, True, False, "0", (0,), [0], {}, object()):
            self.refused(desk, lambda: desk.lift(index), InvalidNumber, index)
        self.assertIsNone(desk.lift(1))
        self.assertEqual(desk.promises, (("mint", ("pays", 3)), ("mint", ("won",))))
        desk.drop("bag")
        desk.lift(index=1)
        desk.lift(0)
        self.assertEqual(desk.promises, ())
        self.refused(desk, lambda: desk.lift(0), InvalidNumber, 0)
        desk.put("mint", (2,))

    def test_the_order_of_the_errors(self):
        desk = self.desk()
        desk.promise(("mint", ("won",)))
        self.refused(desk, lambda: desk.put("Mint", 5), InvalidName, "Mint")
        self.refused(desk, lambda: desk.put("mint", 5), NotAThing, 5)
        wish = ("nobody", ("won", 1))
        self.refused(desk, lambda: desk.promise(wish), InvalidWish, wish)
        self.refused(desk, lambda: desk.promise(("nobody", ("full", 12))), UnknownName, "nobody")

    def test_all_promises_hold_after_each_change(self):
        source = random.Random(63)
        things = [Lot(coins) for coins in ((2, 3), (3, 5, 7), (5, 8), (4, 6), (1, 2), (3, 5, 7, 10))]
        things += [(), (1, 2), (1, 1, 2, 3), (1, 1, 1, 2, 4), (5, 10), (1,) * 7]
        wishes = [("pays", 10), ("misses", 4), ("ways", 10, 1), ("least", 10, 2), ("most", 10, 2), ("last", 4), ("won",),
                  ("holds", 3, 1), ("full", 0), ("full", 1)]
        for _ in range(30):
            desk = Desk()
            for _ in range(60):
                names = [source.choice("abc") for _ in range(2)]
                promise = source.choice([(names[0], source.choice(wishes)), ("within", *names), ("alike", *names),
                                         ("reach", *names, source.randrange(4))])
                action = source.choice([lambda: desk.put(names[0], source.choice(things)), lambda: desk.drop(names[0]),
                                        lambda: desk.promise(promise), lambda: desk.lift(source.randrange(3)), desk.undo])
                before = state(desk)
                try:
                    action()
                except (Broken, InUse, UnknownName, InvalidNumber, NothingToUndo):
                    self.assertEqual(state(desk), before)
                self.check_promises(desk)

    def check_promises(self, desk):
        """All promises are taken by a new desk with the same things; so all of them hold."""
        other = Desk()
        for name in desk.names:
            other.put(name, desk.named(name))
        for promise in desk.promises:
            other.promise(promise)
        self.assertEqual(other.promises, desk.promises)
        self.assertEqual(state(played(desk.log)), state(desk))


class UndoTest(DeskCase):
    def test_each_deed_is_one_change(self):
        desk = Desk()
        states = [state(desk)]
        for action in (lambda: desk.put("mint", ODD), lambda: desk.put("mint", ODD), lambda: desk.put("bag", (1, 2)),
                       lambda: desk.promise(("mint", ("won",))), lambda: desk.promise(("bag", ("full", 0))),
                       lambda: desk.lift(0), lambda: desk.put("mint", (1,)), lambda: desk.drop("mint"),
                       lambda: desk.put("mint", FEW)):
            action()
            states.append(state(desk))
            self.assertEqual(desk.changes, len(states) - 1)
        for known in states[-2::-1]:
            self.assertIsNone(desk.undo())
            self.assertEqual(state(desk), known)
        self.refused(desk, desk.undo, NothingToUndo)
        desk.put("a", ())
        self.assertEqual(desk.changes, 1)

    def test_what_was_told_stays(self):
        desk = self.desk()
        told = (desk.names, desk.promises, desk.log)
        desk.put("a", FEW)
        desk.promise(("a", ("won",)))
        self.assertEqual(told, (("bag", "mint"), (), (("put", "mint", "lot 3 5 7"), ("put", "bag", "purse 1+1+2+3"))))


class TrialTest(DeskCase):
    def test_an_exception_takes_all_back(self):
        desk = self.desk()
        desk.promise(("mint", ("won",)))
        before = state(desk)
        for kind in (Trouble, ValueError, KeyboardInterrupt):
            error = kind()
            with self.assertRaises(kind) as caught:
                with desk.trial() as held:
                    self.assertIs(held, desk)
                    desk.lift(0)
                    held.drop("mint")
                    held.put("other", FEW)
                    raise error
            self.assertIs(caught.exception, error)
            self.assertEqual(state(desk), before)
        with self.assertRaises(Broken):
            with desk.trial():
                desk.put("few", FEW)
                desk.put("mint", ())
        self.assertEqual(state(desk), before)

    def test_without_an_exception_all_stays(self):
        desk = self.desk()
        with desk.trial() as held:
            held.put("few", FEW)
            held.drop("bag")
        self.assertEqual((desk.names, desk.changes), (("few", "mint"), 4))
        for _ in range(2):
            desk.undo()
        self.assertEqual(desk.names, ("bag", "mint"))

    def test_undo_within_a_trial(self):
        desk = self.desk()
        before = state(desk)
        with self.assertRaises(NothingToUndo):
            with desk.trial():
                for _ in range(3):
                    desk.undo()
        self.assertEqual(state(desk), before)
        with self.assertRaises(Trouble):
            with desk.trial():
                desk.undo()
                desk.put("new", ())
                raise Trouble()
        self.assertEqual(state(desk), before)

    def test_trials_within_trials(self):
        desk = self.desk()
        with desk.trial():
            desk.put("a", FEW)
            with self.assertRaises(Trouble):
                with desk.trial():
                    desk.put("b", FEW)
                    with desk.trial():
                        desk.put("c", FEW)
                    raise Trouble()
            self.assertEqual((desk.names, desk.changes), (("a", "bag", "mint"), 3))
        before = state(desk)
        trial = desk.trial()
        with self.assertRaises(Trouble):
            with trial:
                with trial:
                    desk.drop("a")
                desk.drop("bag")
                raise Trouble()
        self.assertEqual(state(desk), before)
        self.assertEqual(desk.changes, 3)

    def test_a_call_alone_changes_nothing(self):
        desk = self.desk()
        before = state(desk)
        desk.trial()
        self.assertEqual(state(desk), before)

    def test_tried(self):
        desk = self.desk()
        for value in (None, 0, (), desk, [5]):
            self.assertIs(desk.tried(lambda held: value), value)
        self.assertIs(desk.tried(action=lambda held: held), desk)
        self.assertEqual(desk.tried(lambda held: (held.put("a", FEW), len(held))), (None, 3))
        before = state(desk)

        def act(held):
            held.drop("a")
            held.tried(lambda one: one.drop("bag"))
            held.drop("a")

        with self.assertRaises(UnknownName):
            desk.tried(act)
        self.assertEqual(state(desk), before)


if __name__ == "__main__":
    unittest.main()
