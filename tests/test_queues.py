"""[21]: queues of guests, and the tills that can serve them."""

import itertools
import random
import unittest

from mintlots.errors import InvalidPurse, InvalidQueue, TooMany
from mintlots.queues import orders, passes, plan, stuck, tills
from tests import plain_purses as plain

KNOWN = (((), ()), ((1, 2, 5), ()), ((), (((5,), 5), ((10,), 5))), ((), (((10,), 5), ((5,), 5))),
         ((1, 2), (((5,), 3), ((1, 3), 3))), ((), (((5,), 5), ((10,), 5), ((5,), 5))), ((), (((), 0),)), ((), (((), 1),)),
         ((1,), (((), 0), ((), 0))), ((5,), (((10,), 5), ((10,), 5), ((10,), 10))), ((), (((1000,) * 12, 12000),)),
         ((1,) * 6, (((1,), 0),) * 6), ((1, 2, 3, 4, 5, 6), tuple(((at,), 0) for at in range(1, 7))),
         ((), (((3,), 4), ((3,), 3))), ((2, 2), (((3,), 1), ((3,), 1), ((1,), 2))), ((1, 1), (((2, 2), 1), ((2, 2), 3))),
         ((), (((5,), 12000),)), ((3,), (((2,), 0), ((1, 5), 1), ((2, 2), 3), ((4,), 4))))


def some_queues():
    """Tills and queues with at most nine pieces, many of which pass."""
    source = random.Random(23)
    found = list(KNOWN)
    while len(found) < 260:
        top = source.choice((2, 3, 5, 10, 20))
        number = source.randint(0, 4)
        till = tuple(sorted(source.randint(1, top) for _ in range(source.randint(0, 4))))
        queue = []
        for _ in range(number):
            left = 9 - len(till) - sum(len(purse) for purse, _ in queue)
            purse = tuple(sorted(source.randint(1, top) for _ in range(source.randint(0, min(3, left)))))
            price = source.choice((0, source.randint(0, top), source.choice([sum(part) for part in plain.parts(purse)]),
                                   max(0, sum(purse) - source.choice(till or (0,)))))
            queue.append((purse, price))
        found.append((till, tuple(queue)))
    return found


TRIED = some_queues()


class QueueTest(unittest.TestCase):
    def test_against_going_through_all_deals(self):
        seen = {True: 0, False: 0}
        for till, queue in TRIED:
            right = tuple(sorted(plain.tills_of(till, queue)))
            seen[bool(right)] += len(queue) > 1
            with self.subTest(till=till, queue=queue):
                told = tills(till, queue)
                self.assertEqual(told, right)
                self.assertEqual(tills(queue=queue, till=till), right)
                self.assertIs(type(told), tuple)
                self.assertEqual({type(one) for one in told} | {tuple}, {tuple})
                self.assertIs(passes(till, queue), bool(right))
                self.assertIs(passes(queue=queue, till=till), bool(right))
                for one in told:
                    self.assertEqual(sum(one), sum(till) + sum(price for _, price in queue))
                first = next((at for at in range(len(queue)) if not plain.tills_of(till, queue[:at + 1])), None)
                self.assertEqual(stuck(till, queue), first)
                self.assertEqual(stuck(queue=queue, till=till), first)
        self.assertGreater(min(seen.values()), 30)

    def test_plans(self):
        for till, queue in TRIED:
            with self.subTest(till=till, queue=queue):
                told = plan(till, queue)
                self.assertEqual(plan(queue=queue, till=till), told)
                if not plain.tills_of(till, queue):
                    self.assertIsNone(told)
                    continue
                self.assertIs(type(told), tuple)
                self.assertEqual(len(told), len(queue))
                stands = till
                for deal, (purse, price) in zip(told, queue):
                    self.assertEqual([type(part) for part in (deal,) + deal], [tuple] * 3)
                    handed, back = deal
                    self.assertIn(handed, plain.parts(purse))
                    self.assertIn(back, plain.parts(stands))
                    self.assertEqual(sum(handed) - sum(back), price)
                    stands = plain.purses_behind(purse, stands, deal)[1]
                self.assertIn(stands, tills(till, queue))

    def test_orders(self):
        for till, queue in TRIED:
            if len(queue) > 4:
                continue
            right = tuple(order for order in itertools.permutations(range(len(queue)))
                          if plain.tills_of(till, tuple(queue[at] for at in order)))
            with self.subTest(till=till, queue=queue):
                self.assertEqual(orders(till, queue), right)
                self.assertEqual(orders(queue=queue, till=till), right)
                self.assertEqual(tuple(range(len(queue))) in right, passes(till, queue))

    def test_orders_of_six_guests(self):
        for till, queue in (((), (((5,), 5), ((5,), 5), ((10,), 5), ((10,), 5), ((5,), 5), ((10,), 5))),
                            ((3, 5, 6), (((3, 5), 8), ((6, 8), 11), ((7,), 4), ((2,), 2), ((2,), 2), ((6,), 4))),
                            ((), (((8,), 6), ((1,), 1), ((8,), 8), ((2, 5), 4), ((1, 1), 2), ((1, 7), 8)))):
            right = tuple(order for order in itertools.permutations(range(6))
                          if plain.tills_of(till, tuple(queue[at] for at in order)))
            self.assertEqual(orders(till, queue), right)
            self.assertGreater(len(right), 0)
            self.assertLess(len(right), 720)

    def test_the_empty_queue(self):
        for till in ((), (1,), (1, 2, 5), (1000,) * 12):
            self.assertIs(passes(till, ()), True)
            self.assertEqual(plan(till, ()), ())
            self.assertEqual(tills(till, ()), (till,))
            self.assertEqual(orders(till, ()), ((),))
            self.assertIsNone(stuck(till, ()))

    def test_known_ones(self):
        fives = (((5,), 5), ((10,), 5))
        self.assertIs(passes((), fives), True)
        self.assertEqual(stuck((), fives[::-1]), 0)
        self.assertEqual(plan((), fives), (((5,), ()), ((10,), (5,))))
        self.assertEqual(tills((1, 2), (((5,), 3), ((1, 3), 3))), ((1, 3, 5),))
        self.assertEqual(tills((), fives[::-1]), ())
        self.assertEqual(orders((), fives + (((5,), 5),)), ((0, 1, 2), (0, 2, 1), (2, 0, 1), (2, 1, 0)))
        self.assertEqual(orders((), fives[1:]), ())
        self.assertEqual(len(orders((1,) * 6, (((1,), 0),) * 6)), 720)
        self.assertEqual(stuck((5,), (((10,), 5), ((10,), 5), ((10,), 10))), 1)
        self.assertEqual(tills((1, 1, 3), (((2, 3), 0),)), ((1, 1, 3), (2, 3)))

    def test_how_a_guest_is_served_hangs_on_those_behind(self):
        # The first guest must be given 2+2 back, or the second one could not be served.
        till, queue = (2, 2, 4), (((5,), 1), ((8,), 4))
        self.assertEqual(plan(till, queue)[0], ((5,), (2, 2)))

    def test_a_piece_more_never_keeps_a_queue_from_passing(self):
        for till, queue in TRIED:
            if queue and passes(till, queue) and len(till) + sum(len(purse) for purse, _ in queue) < 12:
                for piece in (1, 3, 10):
                    self.assertIs(passes(tuple(sorted(till + (piece,))), queue), True)
                    purse, price = queue[0]
                    self.assertIs(passes(till, ((tuple(sorted(purse + (piece,))), price),) + queue[1:]), True)


class QueueErrorsTest(unittest.TestCase):
    calls = (passes, plan, tills, orders, stuck)

    def wrong(self, till, queue, index):
        for call in self.calls:
            with self.subTest(call=call, queue=queue), self.assertRaises(InvalidQueue) as caught:
                call(till, queue)
            if index is None:
                self.assertIsNone(caught.exception.index)
            else:
                self.assertEqual(caught.exception.index, index)

    def test_no_tuple(self):
        for queue in (None, True, 0, 5, "", "ab", b"ab", [], [((5,), 5)], {}, {((5,), 5): 1}, object()):
            self.wrong((1,), queue, None)

    def test_a_wrong_guest(self):
        right = ((5,), 5)
        for guest in (None, True, 5, "ab", b"ab", [], [(5,), 5], (), ((5,),), ((5,), 5, 5), ([5], 5), ((5, 4), 5),
                      ((True,), 5), ((0,), 0), ((1001,), 5), ((1,) * 13, 5), (5, (5,)), ((5,), True), ((5,), None),
                      ((5,), "5"), ((5,), -1), ((5,), 12001), ((5,), 10 ** 99), ((5,), (5,)), (None, 5), {}, object()):
            self.wrong((1,), (guest,), 0)
            self.wrong((1,), (right, guest), 1)
            self.wrong((1,), (guest, right, guest), 0)
            self.wrong((1,) * 12, (right, right, guest), 2)

    def test_the_seventh(self):
        guest = ((1,), 1)
        self.wrong((), (guest,) * 7, 6)
        self.wrong((), (guest,) * 6 + (None,), 6)
        self.wrong((), (guest,) * 3000, 6)
        self.wrong((1,) * 12, (guest,) * 7, 6)
        self.wrong((), (guest,) * 5 + (None, guest), 5)

    def test_wrong_tills(self):
        for till in ((2, 1), [1], None, True, (True,), (0,), (1001,), (1,) * 13, "1", 1, {}, object()):
            for call in self.calls:
                for queue in ((), None, (((5,), 5),)):
                    with self.subTest(till=till), self.assertRaises(InvalidPurse) as caught:
                        call(till, queue)
                    self.assertIs(caught.exception.given, till)

    def test_too_many_pieces(self):
        for till, queue, number in (((1,) * 12, (((1,), 1),), 13), ((), (((1,) * 7, 1), ((1,) * 6, 1)), 13),
                                    ((1,) * 12, (((1,) * 12, 0),) * 6, 84), ((1,), (((2,) * 12, 12000),), 13)):
            for call in self.calls:
                with self.subTest(call=call), self.assertRaises(TooMany) as caught:
                    call(till, queue)
                self.assertEqual(caught.exception.given, number)
        for call in self.calls:
            call((1,) * 6, (((1,), 0),) * 6)
            call((), (((1000,) * 12, 12000),))
            call((1,) * 12, (((), 0),) * 6)


if __name__ == "__main__":
    unittest.main()
