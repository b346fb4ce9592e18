"""[28], "Checker" of [2]: what is accepted, and that it is true; nothing is ever raised."""

import unittest

from mintlots import certificates
from mintlots.checker import accepts
from mintlots.lots import Lot
from mintlots.views import View
from tests import plain_claims
from tests.odd import Odd, Same, nested
from tests.plain_claims import changed, is_right, some_source

MOST = 10 ** 30


WRONG = (None, True, False, 0, 1, -1, 10 ** 99, "", "paid", "5 8", "5  8", b"5 8", (), (1,), ((),), [], [1], {}, {"a": 1},
         set(), object(), Odd(), Same(), len, Lot, Lot((5, 8)), View(()), nested(9), ValueError("x"), range(3))

TELLINGS = (("paid", 5), ("missed", 9), ("paid", 8), ("missed", 11))

PAIRS = (
    certificates.certify_paid(Lot((5, 8)), 83),
    certificates.certify_paid(Lot((5, 8)), 27),
    certificates.certify_paid(Lot((6, 10, 15)), 29),
    certificates.certify_paid(Lot((6, 10)), MOST - 1),
    certificates.certify_paid(Lot((3, 5, 7)), MOST),
    certificates.certify_paid(Lot((1, 2)), 0),
    (("missed", "5 8", 27), (8, (0, 25, 10, 35, 20, 5, 30, 15))),
    certificates.certify_last(Lot((3, 5, 7))),
    certificates.certify_last(Lot((5, 8))),
    (("last", "2 3", 1), (3, (0, 4, 2), ((0, 0), (2, 0), (1, 0)))),
    certificates.certify_ways(Lot((5, 8)), 10),
    certificates.certify_ways(Lot((1, 2, 3)), 12),
    certificates.certify_ways(Lot((2, 5)), 1),
    certificates.certify_ways(Lot((7,)), 0),
    certificates.certify_least(Lot((3, 5, 7)), 29),
    certificates.certify_least(Lot((5, 8)), 0),
    certificates.certify_most(Lot((3, 5, 7)), 29),
    certificates.certify_most(Lot((4, 6)), 20),
    certificates.certify_least(Lot((3, 5, 7)), MOST),
    certificates.certify_least(Lot((4, 6)), 4002),
    certificates.certify_least(Lot((9,)), 9 * 10 ** 20),
    certificates.certify_most(Lot((3, 5, 7)), MOST - 1),
    certificates.certify_most(Lot((6, 10, 16)), 4002),
    (("great least", "5 8", 16, 2), ((0, 2), (0, -4, 0, -7, 0, 3, 0, 0))),
    (("great most", "2 3", 7, 3), ((2, 1), (0, 1))),
    (("great most", "2 3", 7, 3), ((2, 1), (0, 0))),
    certificates.certify_lag(Lot((1, 7)), Lot((1, 3, 7))),
    (("behind", "1 3 7", "1 7", 6, -4), certificates.certify_lag(Lot((1, 7)), Lot((1, 3, 7)))[1][::-1]),
    certificates.certify_lag(Lot((5, 8)), Lot((5, 8))),
    certificates.certify_moved(Lot((5, 8)), 3),
    certificates.certify_moved(Lot((5, 8)), -MOST),
    (("settled", "5 8", 0, 4), ((1, 1), (1, 1))),
    (("settled", "6 10", 0, 0), ((0, 0), (0, 0))),
    certificates.certify_full((1, 1, 2, 3), 1),
    certificates.certify_full((1, 1, 2, 3), 2),
    certificates.certify_full((1, 2, 5), 0),
    certificates.certify_full((2, 2, 2), 2),
    certificates.certify_price((5, 10), (1, 2), 7),
    certificates.certify_price((5, 10), (1, 2), 6),
    certificates.certify_price((1, 1), (1,), 1),
    (("price", (1, 1), (1,), 1), ((1, 1), (1,))),
    (("no price", (5,), (1,), 10 ** 40), ()),
    certificates.certify_stand(Lot((2, 3))),
    certificates.certify_stand(Lot((3, 4, 5))),
    certificates.certify_stand(Lot((4, 5))),
    certificates.certify_stand(Lot((4, 6, 9))),
    certificates.certify_stand(Lot((4, 5, 6, 7, 10))),
    certificates.certify_stand(Lot((1, 5))),
    (("won", "1 5"), ((2, 3),)),
    certificates.certify_quiet(Lot((5, 8))),
    certificates.certify_fit(View(TELLINGS + (("ways", 16, 1), ("least", 20, 2), ("most", 40, 8))), Lot((5, 8, 12, 14))),
    certificates.certify_fit(View(()), Lot((3, 5, 7))),
    certificates.certify_sure(View(TELLINGS), 10),
    certificates.certify_sure(View(TELLINGS), 400),
    certificates.certify_sure(View(TELLINGS), 3),
    certificates.certify_sure(View((("paid", 40), ("missed", 11))), 40),
    (("sure", (("paid", 40), ("paid", 5)), 40, "paid"), ((5, 40), (0, 1))),
    certificates.certify_kept(Lot((1, 2, 3, 6)), (5, 6), Lot((2, 3))),
    certificates.certify_kept(Lot((1, 2, 3, 6)), (5, 6), Lot((1,))),
    certificates.certify_kept(Lot((3, 5, 7)), (3, 5, 7), Lot((3, 5, 7))),
    (("kept", " ".join(map(str, range(2, 17))), (2,), "2"), ((),)),
)


class RightTest(unittest.TestCase):
    def test_right_papers(self):
        words = set()
        for pair in PAIRS:
            with self.subTest(pair=pair):
                self.assertTrue(plain_claims.is_claim(pair[0]))
                words.add(pair[0][0])
                known = is_right(*pair)
                self.assertIs(accepts(*pair), known)
        self.assertEqual(words, set(plain_claims.FORMS))
        self.assertGreater(len([pair for pair in PAIRS if is_right(*pair)]), len(PAIRS) - 5)

    def test_known_answers(self):
        row = (0, None, None, None, None, 1, None, None, 1, None, 2)
        for claim, paper, known in (
                (("paid", "5 8", 83), (7, 6), True), (("least", "5 8", 10, 2), ((2, 0), row), True),
                (("won", "4 5"), ((2, 3),), False), (("quiet", "2 3"), (), False), (("quiet", "4 5 7"), (), True),
                (("quiet", "1 2"), (), False), (("quiet", "6 10"), (), False), (("quiet", "59 60"), (), False),
                (("lost", "2 3 4"), ((2, 3),), True), (("lost", "59 60"), ((2, 3),), False),
                (("won", "2"), (), False), (("won", "1 60"), (), True), (("won", "2 3"), (), False),
                (("lost", "2 3"), (), False), (("last", "1 2", 0), (1, (0,), ((0, 0),)), False),
                (("last", "6 10", 8), (6, (0, None, 20, None, 10, None), ((0, 0),) * 6), False),
                (("paid", "5 8", 0), (0, 0), True), (("fits", (("missed", 12),), "3 5 7"), (), False),
                (("fits", (), "3 5 7 10"), (), False), (("fits", (), "2 15"), (), False),
                (("sure", (("missed", 12),), 5, "paid"), ((12,), (1,)), False),
                (("sure", (("ways", 12, 1),), 12, "paid"), ((12,), (1,)), False),
                (("sure", (), 12, "paid"), ((12,), (1,)), True), (("sure", (), 12, "paid"), ((), ()), False),
                (("sure", (), 0, "paid"), ((12,), (0,)), False), (("sure", (), 0, "paid"), ((), ()), False),
                (("sure", (("missed", 6),), 3, "missed"), ((3,), (2,)), True),
                (("sure", (("missed", 6),), 4, "missed"), ((4, 12), (1, 0)), False),
                (("sure", (("missed", 6),), 6, "missed"), ((6,), (1,)), True),
                (("sure", (("missed", 6),), 3, "missed"), ((2, 3), (0, 2)), False),
                (("kept", "5 8", (), "5"), ((),), True), (("kept", "5 8", (0,), "8"), ((),), True),
                (("kept", "5 8", (), "5 8"), ((), ()), False), (("kept", "5", (8,), "8"), ((),), False),
                (("no price", (1,) * 6, (1,) * 7, 50), (), False), (("price", (1,) * 6, (1,) * 7, 0), ((), ()), False),
                (("not full", (1,), 1), ((1,), 0), False), (("not full", (), 0), ((), 0), False),
                (("full", (), 0), (), False), (("full", (1,) * 12, 11), (), True)):
            with self.subTest(claim=claim, paper=paper):
                self.assertIs(is_right(claim, paper), known)
                self.assertIs(accepts(claim, paper), known)


class ChangedTest(unittest.TestCase):
    def check(self, claim, paper):
        known = is_right(claim, paper)
        if accepts(claim, paper) is not known:
            self.fail((claim, paper, known))
        return known

    def test_papers_changed_in_one_place(self):
        source = some_source(51)
        refused = 0
        for claim, paper in PAIRS:
            for other in changed(paper, source, 6):
                refused += not self.check(claim, other)
        self.assertGreater(refused, 4000)

    def test_claims_changed_in_one_place(self):
        source = some_source(52)
        refused = 0
        for claim, paper in PAIRS:
            for other in changed(claim, source, 5):
                refused += not self.check(other, paper)
        self.assertGreater(refused, 4000)

    def test_papers_of_other_claims(self):
        for claim, _ in PAIRS:
            for _, paper in PAIRS:
                self.check(claim, paper)

    def test_what_is_accepted_is_true(self):
        source = some_source(53)
        numbers = 0
        for claim, paper in PAIRS:
            for _ in range(30):
                told = list(claim)
                at = source.randrange(len(told))
                told[at] = source.choice([other[at] for other, _ in PAIRS if len(other) > at])
                part = source.choice(PAIRS)[1] if source.randrange(4) == 0 else paper
                if accepts(tuple(told), part):
                    numbers += 1
                    self.assertTrue(plain_claims.claim_holds(tuple(told)))
                    self.assertTrue(is_right(tuple(told), part))
        self.assertGreater(numbers, 20)


class BoundsTest(unittest.TestCase):
    """Papers for great lengths may have any bounds that keep what the document asks for."""

    def test_lesser_bounds(self):
        claim, (payment, bounds) = certificates.certify_least(Lot((3, 5, 7)), MOST)
        self.assertIs(accepts(claim, (payment, bounds)), True)
        rest = MOST % 7
        for less in (0, 1, 6, 7, 10 ** 40):
            lowered = tuple(bound - less if at == rest else bound for at, bound in enumerate(bounds))
            self.assertIs(accepts(claim, (payment, lowered)), is_right(claim, (payment, lowered)))
        self.assertIs(accepts(("great least", "5 8", 10 ** 30, 10 ** 30 // 8), ((0, 10 ** 30 // 8), (0,) * 8)), True)

    def test_longer_payments_are_not_the_least(self):
        for number in (2, 7, 8):
            paper = ((8, 10 ** 10 - 5), (0,) * 8)
            self.assertIs(accepts(("great least", "5 8", 8 * 10 ** 10, 10 ** 10 + number - 5), paper), False)
        self.assertIs(accepts(("great least", "5 8", 8 * 10 ** 10, 10 ** 10 + 3), ((8, 10 ** 10 - 5), (0,) * 8)), False)


    def test_one_coin_more_or_less(self):
        half = 10 ** 9
        for claim, paper, known in (
                (("great least", "1 2", 2 * half, half), ((0, half), (0, 1)), True),
                (("great least", "1 2", 2 * half, half + 1), ((2, half - 1), (0, 1)), False),
                (("great least", "1 2", 2 * half + 1, half + 1), ((1, half), (0, 1)), True),
                (("great least", "1 2", 2 * half + 1, half + 2), ((3, half - 1), (0, 1)), False),
                (("great least", "1 2", 2 * half + 1, half + 2), ((3, half - 1), (0, 3)), False),
                (("great most", "2 3", 6 * half, 3 * half), ((3 * half, 0), (0, 1)), True),
                (("great most", "2 3", 6 * half, 3 * half - 1), ((3 * half - 3, 2), (0, 1)), False),
                (("great most", "2 3", 6 * half + 1, 3 * half), ((3 * half - 1, 1), (0, 1)), True),
                (("great most", "2 3", 6 * half + 1, 3 * half - 1), ((3 * half - 4, 3), (0, 1)), False),
                (("great most", "1 2", half, half), ((half, 0), (0,)), True),
                (("great most", "1 2", half, half - 1), ((half - 2, 1), (0,)), False)):
            with self.subTest(claim=claim):
                self.assertIs(is_right(claim, paper), known)
                self.assertIs(accepts(claim, paper), known)


class EdgesTest(unittest.TestCase):
    def check(self, claim, paper, known):
        self.assertIs(is_right(claim, paper), known, (claim, paper))
        self.assertIs(accepts(claim, paper), known, (claim, paper))

    def test_payments_of_other_lengths(self):
        row = certificates.certify_least(Lot((3, 5, 7)), 15)[1][1]
        for payment, known in (((0, 3, 0), True), ((1, 1, 1), True), ((5, 0, 0), False)):
            self.check(("least", "3 5 7", 15, 3), (payment, row), known)
        row = certificates.certify_most(Lot((3, 5, 7)), 15)[1][1]
        for payment, known in (((0, 3, 0), False), ((1, 1, 1), False), ((5, 0, 0), True)):
            self.check(("most", "3 5 7", 15, 5), (payment, row), known)
        self.check(("least", "3 5 7", 15, 5), ((5, 0, 0), row), False)
        one = certificates.certify_least(Lot((3, 5, 7)), 15)[1]
        self.check(("behind", "3 5 7", "3 5 7", 15, 0), (one, one), True)
        self.check(("behind", "3 5 7", "3 5 7", 15, 0), (((5, 0, 0), one[1]), one), False)
        self.check(("behind", "3 5 7", "3 5 7", 15, 2), (((5, 0, 0), one[1]), one), False)

    def test_twelve_pieces_together(self):
        self.check(("price", (1,) * 6, (2,) * 6, 4), ((1,) * 4, ()), True)
        self.check(("no price", (2,) * 6, (2,) * 6, 3), (), True)
        self.check(("no price", (2,) * 6, (2,) * 6, 4), (), False)
        self.check(("no price", (2,) * 6, (2,) * 7, 3), (), False)

    def test_stands_of_papers(self):
        self.check(("lost", "2 3"), ((2, 3),), True)
        for paper in (((2, 3, 4),), ((2, 3), (2, 3, 4)), ((2, 3), (2, 3)), ((2, 3), (1,)), ((1,), (2, 3)), ((1, 2), (2, 3)),
                      ((2, 3), (4, 5)), ((2, 3), (4, 6)), ((2, 3), (59, 60)), ((2, 3), ()), ((), (2, 3)), ((3, 2),), ((2, 2, 3),),
                      ((2, 3), (2,)), ((2, 3), (2, 61)), (2, 3), ((2, True),), ([2, 3],)):
            self.check(("lost", "2 3"), paper, False)
        lost = certificates.certify_stand(Lot((4, 5, 11)))
        self.assertEqual(lost[0][0], "lost")
        self.check(*lost, True)
        self.check(lost[0], lost[1][::-1], False)
        self.check(lost[0], lost[1] + ((2, 3),), False)
        for at in range(len(lost[1])):
            self.check(lost[0], lost[1][:at] + lost[1][at + 1:], False)


class AnyValuesTest(unittest.TestCase):
    def test_other_kinds_of_values(self):
        for claim in WRONG:
            for paper in WRONG:
                self.assertIs(accepts(claim, paper), False)
        for claim, paper in PAIRS:
            for wrong in WRONG:
                self.assertIs(accepts(wrong, paper), False)
                if type(wrong) is not tuple:
                    self.assertIs(accepts(claim, wrong), False)

    def test_other_kinds_of_values_at_every_place(self):
        for claim, paper in PAIRS:
            for wrong in WRONG:
                for at in range(len(claim)):
                    other = claim[:at] + (wrong,) + claim[at + 1:]
                    answer = accepts(other, paper)
                    self.assertIs(type(answer), bool)
                    if answer:
                        self.assertTrue(is_right(other, paper))
                self.assertIs(accepts(claim + (wrong,), paper), False)
                self.put_everywhere(claim, paper, wrong)

    def put_everywhere(self, claim, paper, wrong):
        for at in range(len(paper)):
            others = [paper[:at] + (wrong,) + paper[at + 1:]]
            if isinstance(paper[at], tuple):
                for by in range(min(3, len(paper[at]))):
                    part = paper[at][:by] + (wrong,) + paper[at][by + 1:]
                    others.append(paper[:at] + (part,) + paper[at + 1:])
                others.append(paper[:at] + (paper[at] + (wrong,),) + paper[at + 1:])
            for other in others:
                answer = accepts(claim, other)
                self.assertIs(type(answer), bool)
                if answer:
                    self.assertTrue(is_right(claim, other))

    def test_too_short_and_too_long(self):
        for claim, paper in PAIRS:
            for at in range(len(claim)):
                self.assertIs(accepts(claim[:at], paper), False)
                self.assertIs(accepts(claim[at + 1:], paper), False)
            self.assertIs(accepts(claim + (0,), paper), False)
            self.assertIs(accepts(list(claim), paper), False)
            self.assertIs(accepts(claim, list(paper)), False)
            self.assertIs(accepts(paper, claim), False)

    def test_limits_of_claims(self):
        zero = (0, 0)
        for claim, paper in ((("paid", "1 2", MOST + 1), (MOST + 1, 0)), (("paid", "1 2", -1), zero),
                             (("ways", "1", 401, 1), ((1,) * 402,)), (("least", "1", 4001, 4001), ((4001,), tuple(range(4002)))),
                             (("most", "1", 4001, 4001), ((4001,), tuple(range(4002)))),
                             (("settled", "1", MOST + 1, MOST + 1), ((MOST + 1,), (0,))),
                             (("full", (1,) * 12, 12), ()), (("full", (1,) * 13, 1), ()), (("full", (2, 1), 0), ()),
                             (("fits", (("paid", 12),) * 13, "3 5 7"), ()), (("paid", "0 1", 1), (0, 1)),
                             (("paid", "1 61", 61), (0, 1)), (("paid", "05 8", 5), (1, 0)), (("paid", "8 5", 5), (0, 1)),
                             (("kept", "5 8", (5, 5), "5"), ((),)), (("kept", "5 8", tuple(range(0, 65, 5)), "5"), ((),)),
                             (("sure", (), 401, "paid"), ((12, 13), (0, 0)))):
            self.assertIs(plain_claims.is_claim(claim), False, claim)
            self.assertIs(accepts(claim, paper), False, claim)
        for claim, paper in ((("paid", "1 2", MOST), (MOST, 0)), (("ways", "1", 400, 1), ((1,) * 401,)),
                             (("least", "1", 4000, 4000), ((4000,), tuple(range(4001)))),
                             (("settled", "1", -MOST, MOST), ((0,), (MOST,))), (("full", (1,) * 12, 11), ()),
                             (("fits", (("paid", 12),) * 12, "3 5 7"), ()), (("paid", "1 60", 60), (0, 1)),
                             (("kept", "5 8", tuple(range(0, 60, 5)), "5"), ((),)),
                             (("sure", (), 400, "paid"), ((12, 13, 20), (0, 0, 20)))):
            self.assertIs(accepts(claim, paper), True, claim)


if __name__ == "__main__":
    unittest.main()
