"""The examples of the document, as they stand."""

import unittest

EXAMPLES = """
>>> from mintlots.lots import Lot, count_missed, divisor, first_unlike, is_paid, is_within, joined, last_missed, lean, least_sums, missed, pay_alike
>>> few = Lot((5, 8))
>>> odd = Lot((3, 5, 7))
>>> [str(few), Lot.read("5 8") == few, divisor(Lot((6, 10))), str(lean(Lot((4, 6, 8, 10, 13)))), is_paid(few, 27), is_paid(few, 10 ** 30), least_sums(few, 5)]
['5 8', True, 2, '4 6 13', False, True, (0, 16, 32, 8, 24)]
>>> [missed(odd), count_missed(few), last_missed(few), pay_alike(odd, Lot((3, 5, 7, 10))), first_unlike(odd, few), is_within(few, odd), str(joined(odd, few))]
[(1, 2, 4), 14, 27, True, 3, True, '3 5 7']
>>> missed(Lot((6, 10)))
raises NoEnd(given=2)
>>> from mintlots.payments import count_payments, first_payment, great_count, last_payment, nth_payment, payments, place_of
>>> [payments(odd, 15), count_payments(odd, 40), nth_payment(odd, 15, 2), place_of(odd, (5, 0, 0)), first_payment(few, 83), last_payment(few, 83)]
[((0, 3, 0), (1, 1, 1), (5, 0, 0)), 11, (5, 0, 0), 2, (7, 6), (15, 1)]
>>> [great_count(Lot((1, 5, 10)), 100), great_count(Lot((2, 3)), 10 ** 30)]
[121, 166666666666666666666666666667]
>>> from mintlots.singles import few_sums, is_single, last_single, other_payment, single_sums
>>> [single_sums(Lot((2, 3))), last_single(few), len(few_sums(few, 2)), is_single(odd, (1, 0, 1)), other_payment(few, (8, 0))]
[(0, 2, 3, 4, 5, 7), 67, 80, False, (0, 5)]
>>> from mintlots.swaps import swap_at, swapped, swaps, way
>>> [swaps(Lot((2, 3))), len(swaps(odd)), swap_at(odd, (1, 1, 1)), swapped(odd, (1, 1, 1), ((1, 0, 1), (0, 2, 0))), way(odd, (5, 0, 0), (0, 3, 0))]
[(((0, 2), (3, 0)), ((3, 0), (0, 2))), 16, (((0, 1, 1), (4, 0, 0)), ((1, 0, 1), (0, 2, 0))), (0, 3, 0), (((5, 0, 0), (0, 3, 0)),)]
>>> from mintlots.lengths import gains, lag, least, least_payment, length_step, lengths, losses, most, most_payment, stretch
>>> [least(odd, 29), most(odd, 29), least_payment(odd, 28), lengths(odd, 29), length_step(odd), stretch(Lot((4, 6, 9))), losses(few), gains(few)]
[5, 9, (0, 0, 4), (5, 7, 9), 2, (9, 4, 36), (0, 15, 6, 21, 12, 3, 18, 9), (0, 6, 12, 3, 9)]
>>> [least(odd, 10 ** 30), lag(Lot((1, 7)), Lot((1, 3, 7))), lag(Lot((1, 3)), Lot((1, 4)))]
[142857142857142857142857142858, (4, 6), None]
>>> from mintlots.backs import least_deal, least_moved, moved_losses, worst_rests
>>> [least_moved(few, 1), least_moved(few, -1), least_deal(few, 3), least_moved(few, 10 ** 30), moved_losses(few), worst_rests(Lot((6, 10)))]
[5, 5, ((0, 1), (1, 0)), 125000000000000000000000000000, (0, 15, 6, 13, 12, 3, 18, 9), (16, (4,))]
>>> from mintlots.purses import as_text, best_purse, best_whole, count_full, fewest_pieces, from_text, full_purses, gap, held, is_full, may_come, ways_held
>>> [as_text((1, 2, 5)), from_text("-"), held((1, 2, 5)), ways_held((1, 1, 2, 2), 3), is_full((1, 2, 4), 0), is_full((1, 1, 2, 3), 1), gap((1, 2, 5), 0)]
['1+2+5', (), (0, 1, 2, 3, 5, 6, 7, 8), 1, True, True, ((), 4)]
>>> [best_whole(5, 1), best_purse(4, 0), fewest_pieces(100, 0), fewest_pieces(100, 1), count_full(9, 4, 0), full_purses(7, 4, 1), may_come((1, 1, 2, 3), 1)]
[12, (1, 2, 4, 8), 7, 10, 4, ((1, 1, 2, 3),), 5]
>>> from mintlots.pots import behind, deal_for, pot, prices, reach, settles_all, ways_to_settle
>>> [pot((5, 10), (1, 2)), prices((5,), (1, 1)), ways_to_settle((5, 10), (1, 2, 5), 7), settles_all((4, 8), (1, 2), 0), reach((4, 8), (1, 2)), reach((5, 10), (1, 2))]
[(1, 2, 5, 10), (-2, -1, 0, 3, 4, 5), 2, True, 12, 0]
>>> [deal_for((4, 8), (1, 2), 5), behind((4, 8), (1, 2), ((8,), (1, 2)))]
[((8,), (1, 2)), ((1, 2, 4), (8,))]
>>> from mintlots.queues import orders, passes, plan, stuck, tills
>>> [passes((), (((5,), 5), ((10,), 5))), stuck((), (((10,), 5), ((5,), 5))), plan((), (((5,), 5), ((10,), 5))), tills((1, 2), (((5,), 3), ((1, 3), 3))), orders((), (((5,), 5), ((10,), 5), ((5,), 5)))]
[True, 0, (((5,), ()), ((10,), (5,))), ((1, 3, 5),), ((0, 1, 2), (0, 2, 1), (2, 0, 1), (2, 1, 0))]
>>> from mintlots.partings import count_even, even_partings, full_parting, least_difference, most_hands
>>> [even_partings((1, 2, 3, 4), 2), count_even((1, 1, 2, 2, 3, 3), 3), least_difference((2, 5, 9)), full_parting((1, 1, 2, 3), 2), most_hands((1, 1, 1, 2, 3)), most_hands((2, 2))]
[(((1, 4), (2, 3)),), 1, 2, ((1,), (1, 2, 3)), 3, 0]
>>> from mintlots.naming import end, game, good_names, is_quiet, is_won, named
>>> [is_won(Lot((2, 3))), is_won(Lot((4, 5))), good_names(Lot((4, 5))), is_quiet(Lot((4, 5))), is_quiet(Lot((4, 5, 7))), str(named(Lot((4, 6, 9)), (5, 7)))]
[False, True, (11,), True, True, '4 5 6 7']
>>> [end(Lot((2, 3))), end(Lot((3, 4, 5))), game(Lot((3, 4, 5))), end(Lot((1, 5))), good_names(Lot((4, 6, 9)))]
[1, 2, (2, 1), 0, (11,)]
>>> from mintlots.views import View, can_be, fitting, is_sound, next_sum, sound_lots, sure
>>> seen = View((("paid", 7), ("missed", 11), ("ways", 14, 2)))
>>> [len(sound_lots()), is_sound(Lot((3, 5, 7))), len(fitting(seen)), can_be(seen), sure(seen, 4), sure(seen, 14), next_sum(View(()))]
[131, True, 6, True, 'missed', 'paid', 6]
>>> from mintlots.calls import called_in, calling_orders, gained_sums, kept_lots, lost_sums, strikes, struck
>>> [str(called_in(odd, 5)), lost_sums(odd, 7), gained_sums(few, 7), kept_lots(Lot((1, 2, 3, 6)), (5, 6)), calling_orders(Lot((1, 2, 3, 6)), (5, 6)), strikes(Lot((5,)), 4, 6)]
['3 7', (7,), (7, 12, 14, 17, 19, 22, 27), ((1,), (2, 3)), 8, (4, 6, 7)]
>>> from mintlots.counters import Counter
>>> counter = Counter((4, 8), (1, 2))
>>> counter.pay(5)
>>> counter.put(3)
>>> [counter.buyer, counter.seller, counter.changes, counter.undo(), counter.buyer, counter.undo(), counter.seller]
[(1, 2, 3, 4), (8,), 2, None, (1, 2, 4), None, (1, 2)]
>>> from mintlots.desks import Desk, played
>>> desk = Desk()
>>> desk.put("mint", odd)
>>> desk.put("bag", (1, 1, 2, 3))
>>> desk.promise(("mint", ("last", 4)))
>>> desk.promise(("bag", ("full", 1)))
>>> [desk.names, desk.changes, desk.log[1], played(desk.log).promises]
[('bag', 'mint'), 4, ('put', 'bag', 'purse 1+1+2+3'), (('mint', ('last', 4)), ('bag', ('full', 1)))]
>>> desk.put("mint", few)
raises Broken(index=0)
>>> from mintlots.certificates import certify_full, certify_kept, certify_least, certify_paid, certify_quiet, certify_stand, certify_sure, certify_ways
>>> from mintlots.checker import accepts
>>> [certify_paid(few, 27), certify_ways(few, 10), certify_full((1, 2, 5), 0), certify_stand(Lot((2, 3))), certify_quiet(few)]
[(('missed', '5 8', 27), (5, (0, 16, 32, 8, 24))), (('ways', '5 8', 10, 1), ((1, 0, 0, 0, 0, 1, 0, 0, 0, 0, 1), (1, 0, 0, 0, 0, 1, 0, 0, 1, 0, 1))), (('not full', (1, 2, 5), 0), ((), 4)), (('lost', '2 3'), ((2, 3),)), (('quiet', '5 8'), ())]
>>> [accepts(("paid", "5 8", 83), (7, 6)), accepts(("least", "5 8", 10, 2), ((2, 0), (0, None, None, None, None, 1, None, None, 1, None, 2))), accepts(("won", "4 5"), ((2, 3),)), accepts(("quiet", "2 3"), ())]
[True, True, False, False]
>>> from mintlots.console import Console
>>> console = Console((4, 8), (1, 2))
>>> [console.say("deal 5"), console.say("pay 5"), console.say("buyer"), console.say("reach"), console.say("undo"), console.say("full 0"), console.say("least 29 3,5,7"), console.say("good 4,5"), console.say("ways -3")]
['8 1+2', 'ok', '1+2+4', '7', 'ok', 'yes', '5', '11', '1']
>>> console.say("lose 9")
raises NoSuchPiece(given=9)
"""


def shown(source, names):
    """What a line of an example shows: its value, or the error that it raises."""
    try:
        return repr(eval(source, names))
    except Exception as error:
        parts = ", ".join(f"{name}={value!r}" for name, value in vars(error).items())
        return f"raises {type(error).__name__}({parts})"


class ExamplesTest(unittest.TestCase):
    def test_examples(self):
        names = {}
        lines = EXAMPLES.strip().split("\n") + [">>> "]
        checked = 0
        for line, after in zip(lines, lines[1:]):
            if not line.startswith(">>> "):
                continue
            if after.startswith(">>> "):
                exec(line[4:], names)
                continue
            with self.subTest(line=line):
                self.assertEqual(shown(line[4:], names), after)
            checked += 1
        self.assertEqual(checked, 27)


if __name__ == "__main__":
    unittest.main()
