"""[4] and mintlots.errors: attributes, base classes, being caught."""

import unittest

from mintlots import errors
from mintlots.lots import Lot

BASES = {"WrongValue": ValueError, "WrongName": LookupError, "NotPossible": ArithmeticError}

UNDER = {
    "WrongValue": {
        "given": "InvalidText InvalidAmount InvalidCoin InvalidNumber InvalidPrice InvalidPurse InvalidName "
                 "InvalidWish InvalidCommand NotALot NotAView NotAThing",
        "index": "InvalidCoins InvalidPayment InvalidNames InvalidTellings InvalidAmounts InvalidDeal InvalidQueue "
                 "InvalidLog",
    },
    "WrongName": {"given": "UnknownName NoSuchCoin NoSuchPiece", "index": "InUse"},
    "NotPossible": {
        "given": "TooMany NoEnd Missed NotFull NotSettled NotAStand",
        "index": "Broken",
        "": "NoFit NothingToUndo",
    },
}

ROWS = [(name, base, attribute)
        for base, parts in UNDER.items() for attribute, names in parts.items() for name in names.split()]


class Odd:
    """A value that can neither be shown nor compared."""

    def __eq__(self, other):
        raise AssertionError("compared")

    def __repr__(self):
        raise AssertionError("shown")


VALUES = (None, True, False, 0, -1, 7, 10 ** 60, "", "5 8", b"x", (), (1, 2), [], [1, [2]], {}, {"a": 1}, {1, 2},
          object(), Odd(), Lot((5, 8)), len, int, ValueError("x"))


def package_classes():
    return {value for value in vars(errors).values() if isinstance(value, type)}


class ErrorsTest(unittest.TestCase):
    def test_all_classes_are_there_and_no_others(self):
        names = {name for name, _, _ in ROWS} | set(BASES)
        self.assertEqual({one.__name__ for one in package_classes()}, names)
        self.assertEqual(len(names), 36)

    def test_base_classes(self):
        for name, above in BASES.items():
            with self.subTest(name=name):
                base = getattr(errors, name)
                self.assertEqual(base.__bases__, (above,))
                self.assertEqual(vars(base()), {})
                self.assertTrue(base())

    def test_each_class_is_under_its_one_base_class(self):
        for name, base, _ in ROWS:
            with self.subTest(name=name):
                one = getattr(errors, name)
                above = {other for other in package_classes() if issubclass(one, other)}
                self.assertEqual(above, {one, getattr(errors, base)})
                known = {other for other in (ValueError, LookupError, ArithmeticError) if issubclass(one, other)}
                self.assertEqual(known, {BASES[base]})

    def test_each_class_keeps_its_attribute_as_it_is(self):
        for name, _, attribute in ROWS:
            one = getattr(errors, name)
            for value in VALUES:
                if not attribute:
                    continue
                with self.subTest(name=name, kind=type(value)):
                    for error in (one(value), one(**{attribute: value})):
                        self.assertIs(getattr(error, attribute), value)
                        self.assertEqual(list(vars(error)), [attribute])
                        self.assertTrue(error)

    def test_attributes_are_asked_for(self):
        for name, _, attribute in ROWS:
            with self.subTest(name=name):
                if attribute:
                    self.assertRaises(TypeError, getattr(errors, name))
                else:
                    self.assertEqual(vars(getattr(errors, name)()), {})

    def test_each_error_is_caught_by_its_base_class(self):
        for name, base, attribute in ROWS:
            one = getattr(errors, name)
            for above in (getattr(errors, base), BASES[base], one):
                with self.subTest(name=name, above=above):
                    value = object()
                    with self.assertRaises(above) as caught:
                        raise one(value) if attribute else one()
                    self.assertIs(type(caught.exception), one)
                    if attribute:
                        self.assertIs(getattr(caught.exception, attribute), value)


class RaisedTest(unittest.TestCase):
    def test_what_the_package_raises_is_caught_by_its_base_class(self):
        from mintlots.lots import least_sums, missed
        with self.assertRaises(errors.WrongValue):
            Lot(())
        with self.assertRaises(errors.WrongName):
            least_sums(Lot((5, 8)), 6)
        with self.assertRaises(errors.NotPossible):
            missed(Lot((6, 10)))


if __name__ == "__main__":
    unittest.main()
