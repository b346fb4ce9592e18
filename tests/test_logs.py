"""[27], "Live" of [2]: logs of desks, and the desks to which they lead."""

import unittest

from mintlots.desks import Desk, played
from mintlots.errors import Broken, InvalidLog
from mintlots.lots import Lot
from mintlots.views import View

LOG = (
    ("put", "mint", "lot 3 5 7"), ("put", "bag", "purse 1+1+2+3"), ("put", "none", "purse -"), ("promise", ("mint", ("last", 4))),
    ("promise", ("reach", "bag", "none", 7)), ("promise", ("alike", "mint", "mint")), ("lift", 1), ("drop", "none"),
    ("put", "mint", "lot 3 5 7 60"), ("put", "bag", "purse 1+1+2+3"),
)

NO_CHANGES = (
    None, True, 5, "put", "drop", b"put", [], {}, (), ("put",), ("put", "a"), ("put", "a", "lot 5 8", 1), ("put", "A", "lot 5 8"),
    ("put", None, "lot 5 8"), ("put", "a", None), ("put", "a", 5), ("put", "a", ""), ("put", "a", "lot"), ("put", "a", "lot "),
    ("put", "a", "lot 8 5"), ("put", "a", "lot 05 8"), ("put", "a", " lot 5 8"), ("put", "a", "lot  5 8"), ("put", "a", "5 8"),
    ("put", "a", "Lot 5 8"), ("put", "a", "lot 5 8 "), ("put", "a", "purse"), ("put", "a", "purse "), ("put", "a", "purse 2+1"),
    ("put", "a", "purse --"), ("put", "a", "bag 1+2"), ("put", "a", Lot((5, 8))), ("put", "a", (5, 8)), ("put", "a", ["lot 5 8"]),
    ("put", ["a"], "lot 5 8"), ("put", "mint", "lot 5 8"), ("put", "mint", "purse -"), ["put", "a", "lot 5 8"],
    ("drop",), ("drop", "a"), ("drop", None), ("drop", ["a"]), ("drop", "mint"), ("drop", "bag", 1), ("promise",),
    ("promise", None), ("promise", []), ("promise", ("won",)), ("promise", ("mint", ("misses", 5))), ("promise", ("a", ("won",))),
    ("promise", (["mint"], ("won",))), ("promise", ("mint", ("won",)), 1), ("lift",), ("lift", 2), ("lift", -1), ("lift", True),
    ("lift", None), ("lift", "0"), ("lift", 0, 0), ("undo",), ("undo", 1), ("Put", "a", "lot 5 8"), (None, "a"), (["drop"], "bag"),
    (("drop",), "bag"), (5, "bag"), Lot((5, 8)), View(()), object(), Desk(),
)


def things(desk):
    return [(name, desk.named(name)) for name in desk.names]


class LogTest(unittest.TestCase):
    def desk(self):
        desk = Desk()
        desk.put("mint", Lot((3, 5, 7)))
        desk.put("bag", (1, 1, 2, 3))
        desk.put("none", ())
        desk.promise(("mint", ("last", 4)))
        desk.promise(("reach", "bag", "none", 7))
        desk.promise(("alike", "mint", "mint"))
        desk.lift(1)
        desk.drop("none")
        desk.put("mint", Lot((3, 5, 7, 60)))
        desk.put("bag", (1, 1, 2, 3))
        return desk

    def test_each_change_as_its_tuple(self):
        desk = self.desk()
        self.assertEqual(desk.log, LOG)
        self.assertEqual(desk.changes, len(LOG))
        for at in range(len(LOG) - 1, -1, -1):
            desk.undo()
            self.assertEqual(desk.log, LOG[:at])

    def test_what_was_refused_or_taken_back_is_not_in_it(self):
        desk = self.desk()
        with self.assertRaises(Broken):
            desk.put("mint", Lot((5, 8)))
        desk.put("a", (5,))
        desk.undo()
        with self.assertRaises(ZeroDivisionError):
            with desk.trial():
                desk.put("b", ())
                desk.undo()
                desk.undo()
                desk.put("c", (7,))
                1 // 0
        self.assertEqual(desk.log, LOG)
        with desk.trial():
            desk.put("d", (1000,) * 12)
        self.assertEqual(desk.log, LOG + (("put", "d", "purse " + "+".join(["1000"] * 12)),))

    def test_played_leads_to_an_equal_condition(self):
        desk = self.desk()
        for at in range(len(LOG) + 1):
            other = played(log=LOG[:at])
            self.assertIs(type(other), Desk)
            self.assertEqual((other.log, other.changes), (LOG[:at], at))
        other = played(desk.log)
        self.assertEqual((things(other), other.promises), (things(desk), desk.promises))
        while desk.changes:
            desk.undo()
            other.undo()
            self.assertEqual((things(other), other.promises, other.log), (things(desk), desk.promises, desk.log))

    def test_played_gives_a_new_desk(self):
        one = played(LOG)
        other = played(LOG)
        one.drop("bag")
        self.assertFalse(one == other)
        self.assertEqual(other.log, LOG)

    def test_no_tuple(self):
        for log in (None, True, 5, "put", [], list(LOG), {}, Lot((5, 8)), Desk(), object()):
            with self.assertRaises(InvalidLog) as caught:
                played(log)
            self.assertIsNone(caught.exception.index)

    def test_the_first_wrong_change(self):
        for wrong in NO_CHANGES:
            for log in (LOG + (wrong,), LOG + (wrong, None), LOG + (wrong,) + LOG):
                with self.subTest(wrong=wrong), self.assertRaises(InvalidLog) as caught:
                    played(log)
                self.assertEqual(caught.exception.index, len(LOG))
        for at in range(len(LOG)):
            for wrong in (None, ("drop", "nobody"), ("lift", 7)):
                with self.assertRaises(InvalidLog) as caught:
                    played(LOG[:at] + (wrong,) + LOG[at:])
                self.assertEqual(caught.exception.index, at)

    def test_a_change_that_is_left_out(self):
        for at, index in ((0, 2), (1, 3), (2, 3), (3, 6), (6, 6)):
            with self.assertRaises(InvalidLog) as caught:
                played(LOG[:at] + LOG[at + 1:])
            self.assertEqual(caught.exception.index, index)


if __name__ == "__main__":
    unittest.main()
