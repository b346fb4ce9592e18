"""[25]: views, the sound lots that fit, what is sure and what to ask."""

import unittest

from mintlots.errors import InvalidTellings, NoFit
from mintlots.lots import Lot
from mintlots.views import View, can_be, fitting, is_sound, next_sum, sound_lots, sure
from tests import plain, plain_stands
from tests.odd import Same
from tests.plain_stands import plain_tellings, some_tellings, sound_coins

KINDS = (("paid", 7), ("missed", 11), ("ways", 14, 2), ("least", 40, 3), ("most", 1, 0))

NO_TELLINGS = (
    None, True, 5, "paid", b"paid", [], {}, (), ("paid",), ("paid", 0), ("paid", 41), ("paid", -1), ("paid", True),
    ("paid", None), ("paid", "7"), ("paid", 7, 1), ("paid", (7,)), ["paid", 7], ("missed", 0), ("missed", 41),
    ("missed", 10 ** 99), ("missed", 5, 0), ("ways", 5), ("ways", 0, 1), ("ways", 41, 1), ("ways", 5, -1),
    ("ways", 5, True), ("ways", 5, None), ("ways", True, 1), ("ways", 5, 1, 1), ("least", 5), ("least", 5, -1),
    ("least", 41, 1), ("least", 5, False), ("most", 5), ("most", 0, 0), ("most", 5, "1"), ("most", 5, -10 ** 99),
    ("Paid", 7), ("open", 7), ("", 7), (None, 7), (True, 7), (("paid", 7), 7), (5, 7), (["paid"], 7), ({}, 7),
    Lot((5, 8)), object(), View(()), (View(()), 5), ("ways", 5, Lot((5,))),
)


class ViewTest(unittest.TestCase):
    def refused(self, call, index):
        with self.assertRaises(InvalidTellings) as caught:
            call()
        self.assertEqual(caught.exception.index, index)

    def test_tellings_are_kept_as_they_are(self):
        for tellings in ((), KINDS, KINDS[::-1], (KINDS[2],) * 12, KINDS + KINDS + KINDS[:2], (("paid", 1),),
                         (("ways", 40, 10 ** 99), ("least", 1, 10 ** 30)), (("paid", 5), ("missed", 5))):
            self.assertEqual(View(tellings).tellings, tellings)
            self.assertEqual(View(tellings=tellings).tellings, tellings)

    def test_the_first_wrong_telling(self):
        for wrong in NO_TELLINGS:
            with self.subTest(wrong=wrong):
                self.refused(lambda: View((wrong,)), 0)
                self.refused(lambda: View((KINDS[0], wrong, None)), 1)
                self.refused(lambda: View((KINDS[0],) * 12 + (wrong,)), 12)
                self.refused(lambda: View((KINDS[0],) * 11 + (wrong,)), 11)

    def test_the_thirteenth(self):
        self.assertEqual(len(View((("paid", 7),) * 12).tellings), 12)
        for number in (13, 14, 400):
            self.refused(lambda: View((("paid", 7),) * number), 12)

    def test_what_is_no_tuple(self):
        for wrong in (None, True, 5, "", "paid", [], [("paid", 7)], {}, {("paid", 7): 1}, View(()), object(), View):
            self.refused(lambda: View(wrong), None)

    def test_more(self):
        view = View(())
        for at, telling in enumerate(KINDS * 2 + KINDS[:2]):
            for wrong in NO_TELLINGS:
                self.refused(lambda: view.more(wrong), at)
            then = view.more(telling=telling)
            self.assertIs(type(then), View)
            self.assertEqual(then.tellings, view.tellings + (telling,))
            self.assertEqual(len(view.tellings), at)
            view = then
        self.refused(lambda: view.more(("paid", 7)), 12)
        self.refused(lambda: view.more(None), 12)
        self.assertEqual(len(view.tellings), 12)

    def test_equal(self):
        self.assertTrue(View(KINDS) == View(KINDS[:4]).more(KINDS[4]))
        self.assertFalse(View(KINDS) != View(KINDS))
        for other in (View(()), View(KINDS[::-1]), View(KINDS[:4]), View(KINDS + KINDS), KINDS, None, True, 0, "", [],
                      {}, object(), Lot((5, 8)), View):
            self.assertFalse(View(KINDS) == other)
            self.assertTrue(View(KINDS) != other)
        self.assertFalse(View(()) == ())
        self.assertFalse(View(()) == Same())
        self.assertTrue(View(()))

    def test_the_view_itself_never_changes(self):
        view = View(KINDS)
        for call in (fitting, can_be, lambda one: one.more(("paid", 3)), lambda one: one == View(())):
            call(view)
        self.assertEqual(view.tellings, KINDS)
        with self.assertRaises(AttributeError):
            view.tellings = ()


class SoundTest(unittest.TestCase):
    def test_all_sets_of_sums_that_go_together(self):
        lots = sound_lots()
        self.assertEqual(lots, tuple(sound_coins()))
        self.assertEqual(len(lots), 131)
        self.assertEqual(len(plain_stands.sound_sets()), 131)
        self.assertEqual((max(map(len, lots)), max(map(max, lots))), (12, 23))
        self.assertEqual(sound_lots(), lots)
        for coins in lots:
            self.assertEqual(Lot(coins).coins, coins)

    def test_is_sound(self):
        for coins in tuple(sound_coins()) + plain.TRIED_COINS:
            known = plain.lean_of(coins) == coins and all(plain.pays(coins, amount) for amount in range(12, 80))
            self.assertIs(is_sound(Lot(coins)), known, coins)

    def test_what_is_not_lean_is_not_sound(self):
        for coins in sound_coins():
            self.assertIs(is_sound(lot=Lot(coins)), True)
            for more in (24, 36, 60):
                self.assertIs(is_sound(Lot(coins + (more,))), False)

    def test_the_edge(self):
        self.assertIs(is_sound(Lot(tuple(range(12, 24)))), True)
        self.assertIs(is_sound(Lot(tuple(range(13, 26)))), False)
        self.assertIs(is_sound(Lot((2, 13))), True)
        self.assertIs(is_sound(Lot((2, 15))), False)
        self.assertIs(is_sound(Lot((1,))), True)
        self.assertIs(is_sound(Lot((2,))), False)


class FittingTest(unittest.TestCase):
    def test_all_kinds_of_tellings(self):
        for tellings in some_tellings(11, 150) + [KINDS, KINDS[:2], (("ways", 11, 0),), (("least", 5, 0),)]:
            view = View(tellings)
            known = plain_stands.fitting(tellings)
            with self.subTest(tellings=tellings):
                self.assertEqual(fitting(view), known)
                self.assertIs(can_be(view), len(known) > 0)

    def test_each_telling_for_each_lot(self):
        for amount in (1, 5, 11, 12, 23, 40):
            tellings = [("paid", amount), ("missed", amount)]
            tellings += [(word, amount, number) for word in ("ways", "least", "most") for number in (0, 1, 2, 3, 40)]
            for telling in tellings:
                self.assertEqual(fitting(View((telling,))), plain_stands.fitting((telling,)), telling)

    def test_order_and_repeats_do_not_matter(self):
        for tellings in some_tellings(12, 40):
            self.assertEqual(fitting(View(tellings)), fitting(View(tellings[::-1] + tellings[:2])))

    def test_what_nothing_fits(self):
        for tellings in ((("paid", 5), ("missed", 5)), (("missed", 12),), (("ways", 12, 0),), (("least", 11, 0),),
                         (("most", 40, 10 ** 50),), (("paid", 3), ("missed", 6)), (("ways", 5, 10 ** 90),)):
            view = View(tellings)
            self.assertEqual(fitting(view), ())
            self.assertIs(can_be(view), False)
            for call in (lambda: sure(view, 0), lambda: sure(view, 400), lambda: next_sum(view)):
                with self.assertRaises(NoFit) as caught:
                    call()
                self.assertEqual(vars(caught.exception), {})

    def test_no_tellings(self):
        self.assertEqual(fitting(view=View(())), sound_lots())
        self.assertIs(can_be(view=View(())), True)


class SureTest(unittest.TestCase):
    def test_by_all_lots_that_fit(self):
        for tellings in some_tellings(13, 60) + [()]:
            known = plain_stands.fitting(tellings)
            if not known:
                continue
            for amount in list(range(25)) + [39, 40, 41, 400]:
                answers = {plain.pays(coins, amount) for coins in known}
                word = "open" if len(answers) == 2 else "paid" if True in answers else "missed"
                self.assertEqual(sure(View(tellings), amount), word, (tellings, amount))

    def test_by_what_the_known_coins_pay(self):
        empty = 0
        for tellings in plain_tellings(14, 80):
            coins = tuple(sorted({amount for word, amount in tellings if word == "paid"} | set(range(12, 24))))
            missed = [amount for word, amount in tellings if word == "missed"]
            fits = not any(plain.pays(coins, amount) for amount in missed)
            self.assertIs(can_be(View(tellings)), fits, tellings)
            if not fits:
                empty += 1
                continue
            for amount in range(1, 26):
                more = tuple(sorted(set(coins + (amount,))))
                word = "paid" if plain.pays(coins, amount) else "open"
                if any(plain.pays(more, other) for other in missed):
                    word = "missed"
                self.assertEqual(sure(View(tellings), amount), word, (tellings, amount))
        self.assertGreater(empty, 5)

    def test_known_answers(self):
        view = View((("paid", 7), ("missed", 11), ("ways", 14, 2)))
        self.assertEqual((sure(view, 4), sure(view=view, small=14), sure(view, 0)), ("missed", "paid", "paid"))
        self.assertEqual((sure(View(()), 11), sure(View(()), 12), sure(View(()), 400)), ("open", "paid", "paid"))


class NextSumTest(unittest.TestCase):
    def test_by_all_lots_that_fit(self):
        for tellings in some_tellings(15, 80) + plain_tellings(16, 60) + [()]:
            known = plain_stands.fitting(tellings)
            if not known:
                continue
            best = None
            for amount in range(1, 12):
                paying = len([coins for coins in known if plain.pays(coins, amount)])
                worst = max(paying, len(known) - paying)
                if best is None or worst < best[0]:
                    best = (worst, amount)
            self.assertEqual(next_sum(View(tellings)), None if len(known) == 1 else best[1], tellings)

    def test_just_one_fits(self):
        for tellings in ((("paid", 1),), (("ways", 11, 1),) + tuple(("missed", amount) for amount in range(6, 11)),
                         tuple(("missed", amount) for amount in range(1, 12))):
            self.assertEqual(len(plain_stands.fitting(tellings)), 1)
            self.assertIsNone(next_sum(view=View(tellings)))

    def test_asked_to_the_end(self):
        for coins in sound_coins()[::6]:
            view = View(())
            asked = next_sum(view)
            while asked is not None:
                before = len(fitting(view))
                view = view.more(("paid" if plain.pays(coins, asked) else "missed", asked))
                self.assertLess(len(fitting(view)), before)
                asked = next_sum(view)
            self.assertEqual(fitting(view), (coins,))


if __name__ == "__main__":
    unittest.main()
