"""The examples of the document, as they stand."""

import unittest

EXAMPLES = """
>>> from mintlots.lots import Lot, count_missed, divisor, first_unlike, is_paid, is_within, joined, last_missed, lean, least_sums, missed, pay_alike
>>> few = Lot((5, 8))
>>> odd = Lot((3, 5, 7))
>>> [str(few), Lot.read("5 8") == few, divisor(Lot((6, 10))), str(lean(Lot((4, 6, 8, 10, 13)))), is_paid(few, 27), is_paid(few, 10 ** 30), least_sums(few, 5)]
['5 8', True, 2, '4 6 13', False, True, (0, 16, 32, 8, 24)]
>>> [missed(odd), count_missed(few), last_missed(few), pay_alike(odd, Lot((3, 5, 7, 10))), first_unlike(odd, few), is_within(few, odd), str(joined(odd, few))]
[(1, 2, 4), 14, 27, True, 3, True, '3 5 7']
>>> missed(Lot((6, 10)))
raises NoEnd(given=2)
>>> from mintlots.payments import count_payments, first_payment, great_count, last_payment, nth_payment, payments, place_of
>>> [payments(odd, 15), count_payments(odd, 40), nth_payment(odd, 15, 2), place_of(odd, (5, 0, 0)), first_payment(few, 83), last_payment(few, 83)]
[((0, 3, 0), (1, 1, 1), (5, 0, 0)), 11, (5, 0, 0), 2, (7, 6), (15, 1)]
>>> [great_count(Lot((1, 5, 10)), 100), great_count(Lot((2, 3)), 10 ** 30)]
[121, 166666666666666666666666666667]
"""


def shown(source, names):
    """What a line of an example shows: its value, or the error that it raises."""
    try:
        return repr(eval(source, names))
    except Exception as error:
        parts = ", ".join(f"{name}={value!r}" for name, value in vars(error).items())
        return f"raises {type(error).__name__}({parts})"


class ExamplesTest(unittest.TestCase):
    def test_examples(self):
        names = {}
        lines = EXAMPLES.strip().split("\n") + [">>> "]
        checked = 0
        for line, after in zip(lines, lines[1:]):
            if not line.startswith(">>> "):
                continue
            if after.startswith(">>> "):
                exec(line[4:], names)
                continue
            with self.subTest(line=line):
                self.assertEqual(shown(line[4:], names), after)
            checked += 1
        self.assertEqual(checked, 5)


if __name__ == "__main__":
    unittest.main()
