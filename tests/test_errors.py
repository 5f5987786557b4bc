import unittest

from timebonds.errors import BondError, NoBond, NoDeed, NoTimes


class Refusals(unittest.TestCase):
    def test_bond_error_stands_straight_under_value_error(self):
        self.assertEqual(BondError.__bases__, (ValueError,))

    def test_each_refusal_stands_straight_under_bond_error(self):
        for error in (NoDeed, NoBond, NoTimes):
            with self.subTest(error=error.__name__):
                self.assertEqual(error.__bases__, (BondError,))

    def test_refusals_are_told_apart(self):
        for error in (NoDeed, NoBond, NoTimes):
            for other in (NoDeed, NoBond, NoTimes):
                with self.subTest(error=error.__name__, other=other.__name__):
                    self.assertEqual(issubclass(error, other), error == other)

    def test_names(self):
        names = [error.__name__ for error in (BondError, NoDeed, NoBond, NoTimes)]
        self.assertEqual(names, ["BondError", "NoDeed", "NoBond", "NoTimes"])
