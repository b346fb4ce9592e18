"""mintlots.limits: each limit is the told number."""

import unittest

from mintlots import limits

TOLD = {
    "MOST_COIN": 60,
    "MOST_COINS": 15,
    "MOST_AMOUNT": 1000000000000000000000000000000,
    "MOST_SMALL": 400,
    "MOST_LISTED": 400,
    "MOST_PERIOD": 2520,
    "MOST_WAYS": 4,
    "MOST_PIECE": 1000,
    "MOST_PIECES": 12,
    "MOST_MISSED": 14,
    "SOUND_FROM": 12,
    "MOST_TOLD": 12,
    "MOST_START": 10,
    "MOST_SWAPPED": 12,
    "MOST_GUESTS": 6,
    "MOST_PARTED": 10,
    "MOST_HANDS": 6,
}


class LimitsTest(unittest.TestCase):
    def test_each_limit_is_the_told_number(self):
        for name, number in TOLD.items():
            with self.subTest(name=name):
                self.assertIs(type(getattr(limits, name)), int)
                self.assertEqual(getattr(limits, name), number)

    def test_there_are_no_others(self):
        self.assertEqual({name for name in vars(limits) if name.isupper()}, set(TOLD))


if __name__ == "__main__":
    unittest.main()
