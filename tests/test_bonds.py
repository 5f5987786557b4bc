import copy
import inspect
import itertools
import unittest

from tests.oracle import BIG, holds
from timebonds.bonds import first_unmet
from timebonds.errors import BondError, NoDeed

FAR = 10 ** 31


class FirstUnmet(unittest.TestCase):
    def check(self, count, bonds, times, place):
        answer = first_unmet(count, bonds, times)
        self.assertEqual(answer, place)
        self.assertIn(type(answer), (int, type(None)))

    def test_arguments_have_their_names(self):
        self.assertEqual(list(inspect.signature(first_unmet).parameters), ["count", "bonds", "times"])
        self.assertEqual(first_unmet(count=2, bonds=[("by", 0, 1, 3)], times=[0, 4]), 0)

    def test_no_bonds(self):
        self.check(1, [], [7], None)
        self.check(3, [], [-5, 0, 5], None)

    def test_after_with_nothing_to_spare_and_lacking_one(self):
        for number in (5, 0, -5):
            for begin in (100, 0, -100):
                with self.subTest(number=number, begin=begin):
                    bonds = [("after", 0, 1, number)]
                    self.check(2, bonds, [begin, begin + number], None)
                    self.check(2, bonds, [begin, begin + number + 1], None)
                    self.check(2, bonds, [begin, begin + number - 1], 0)

    def test_by_with_nothing_to_spare_and_lacking_one(self):
        for number in (5, 0, -5):
            for begin in (100, 0, -100):
                with self.subTest(number=number, begin=begin):
                    bonds = [("by", 0, 1, number)]
                    self.check(2, bonds, [begin, begin + number], None)
                    self.check(2, bonds, [begin, begin + number - 1], None)
                    self.check(2, bonds, [begin, begin + number + 1], 0)

    def test_the_second_deed_may_have_the_lower_number(self):
        self.check(3, [("after", 2, 0, 4)], [14, 0, 10], None)
        self.check(3, [("after", 2, 0, 4)], [13, 0, 10], 0)
        self.check(3, [("by", 2, 0, 4)], [14, 0, 10], None)
        self.check(3, [("by", 2, 0, 4)], [15, 0, 10], 0)

    def test_numbers_of_thirty_two_figures(self):
        self.check(2, [("after", 0, 1, BIG)], [0, BIG], None)
        self.check(2, [("after", 0, 1, BIG)], [0, BIG - 1], 0)
        self.check(2, [("by", 0, 1, -BIG)], [0, -BIG], None)
        self.check(2, [("by", 0, 1, -BIG)], [0, 1 - BIG], 0)
        self.check(2, [("after", 0, 1, -BIG)], [BIG, 0], None)
        self.check(2, [("after", 0, 1, -BIG)], [BIG, -1], 0)
        self.check(2, [("by", 0, 1, BIG)], [-BIG, 0], None)
        self.check(2, [("by", 0, 1, BIG)], [-BIG, 1], 0)
        self.check(2, [("by", 0, 1, BIG)], [BIG, BIG + BIG], None)
        self.check(2, [("by", 0, 1, BIG)], [BIG, BIG + BIG + 1], 0)

    def test_numbers_somewhat_beyond_are_not_refused(self):
        huge = 10 ** 45
        self.check(2, [("after", 0, 1, huge)], [-huge, 0], None)
        self.check(2, [("after", 0, 1, huge)], [-huge, -1], 0)

    def test_a_bond_of_a_deed_to_itself(self):
        for time in (-9, 0, 9):
            with self.subTest(time=time):
                self.check(2, [("after", 1, 1, 0)], [3, time], None)
                self.check(2, [("after", 1, 1, -1)], [3, time], None)
                self.check(2, [("after", 1, 1, 1)], [3, time], 0)
                self.check(2, [("by", 1, 1, 0)], [3, time], None)
                self.check(2, [("by", 1, 1, 1)], [3, time], None)
                self.check(2, [("by", 1, 1, -1)], [3, time], 0)

    def test_one_deed_alone(self):
        self.check(1, [("by", 0, 0, 0), ("after", 0, 0, 0)], [BIG], None)
        self.check(1, [("by", 0, 0, 0), ("after", 0, 0, 1)], [BIG], 1)

    def test_the_first_of_several_unmet_bonds_counts(self):
        met = ("by", 0, 1, 10)
        unmet = ("after", 0, 1, 6)
        also_unmet = ("by", 0, 1, 4)
        self.check(2, [unmet, also_unmet], [0, 5], 0)
        self.check(2, [also_unmet, unmet], [0, 5], 0)
        self.check(2, [met, met, unmet, met, also_unmet], [0, 5], 2)
        self.check(2, [met, met, met, met, also_unmet], [0, 5], 4)
        self.check(2, [met] * 4, [0, 5], None)

    def test_every_small_bond(self):
        kinds_and_deeds = itertools.product(("after", "by"), (0, 1), (0, 1), range(-3, 4))
        for bond in kinds_and_deeds:
            for times in itertools.product(range(-2, 3), repeat=2):
                with self.subTest(bond=bond, times=times):
                    self.check(2, [bond], list(times), None if holds(bond, times) else 0)

    def test_thirty_deeds_and_a_hundred_bonds(self):
        times = [(deed * 17) % 30 * FAR for deed in range(30)]
        bonds = []
        for place in range(100):
            one, two = place * 7 % 30, place * 11 % 30
            bonds.append((("after", "by")[place % 2], one, two, times[two] - times[one]))
        self.check(30, bonds, times, None)
        for place in (0, 1, 50, 99):
            kind, one, two, number = bonds[place]
            lacking = bonds[:]
            lacking[place] = (kind, one, two, number + (1 if kind == "after" else -1))
            self.check(30, lacking, times, place)

    def test_nothing_handed_in_is_changed(self):
        for times in ([0, 5, 9], [0, 3, 4]):
            bonds = [("after", 0, 1, 4), ("by", 2, 1, -3), ("by", 1, 1, 0)]
            bonds_before = copy.deepcopy(bonds)
            times_before = copy.deepcopy(times)
            first_unmet(3, bonds, times)
            self.assertEqual(bonds, bonds_before)
            self.assertEqual(times, times_before)

    def test_nothing_handed_in_is_changed_by_a_refusal(self):
        bonds = [("after", 0, 1, 4), ("by", 2, 1, -3)]
        times = [0, 3]
        with self.assertRaises(NoDeed):
            first_unmet(2, bonds, times)
        self.assertEqual(bonds, [("after", 0, 1, 4), ("by", 2, 1, -3)])
        self.assertEqual(times, [0, 3])


class DeedsThatThereAreNot(unittest.TestCase):
    def test_as_either_deed_of_either_kind(self):
        for count in (1, 2, 30):
            for deed in (-1, -count, count, count + 1, BIG, -BIG):
                for kind in ("after", "by"):
                    for bond in ((kind, deed, 0, 0), (kind, 0, deed, 0), (kind, deed, deed, 0)):
                        with self.subTest(count=count, bond=bond):
                            with self.assertRaises(NoDeed):
                                first_unmet(count, [bond], [0] * count)

    def test_the_last_deed_is_not_refused(self):
        for count in (1, 2, 30):
            last = count - 1
            self.assertIsNone(first_unmet(count, [("by", last, 0, 0), ("after", 0, last, 0)], [0] * count))

    def test_wherever_in_the_list(self):
        met = ("by", 0, 1, 0)
        for wrong in (("after", 0, 2, 0), ("by", -1, 0, 0)):
            for place in range(4):
                bonds = [met] * 3
                bonds.insert(place, wrong)
                with self.subTest(bonds=bonds):
                    with self.assertRaises(NoDeed):
                        first_unmet(2, bonds, [0, 0])

    def test_ahead_of_an_unmet_bond_and_behind_it(self):
        unmet = ("after", 0, 1, 1)
        for wrong in (("after", 0, 2, 0), ("by", 2, 0, 0), ("by", 0, -1, 0), ("after", BIG, 1, 0)):
            for bonds in ([wrong, unmet], [unmet, wrong], [unmet, unmet, wrong, unmet]):
                with self.subTest(bonds=bonds):
                    with self.assertRaises(NoDeed):
                        first_unmet(2, bonds, [0, 0])

    def test_bond_error_and_value_error_take_it(self):
        for error in (BondError, ValueError):
            with self.assertRaises(error):
                first_unmet(1, [("by", 0, 1, 0)], [0])

    def test_a_deed_of_very_many_figures_is_refused_like_any_other(self):
        with self.assertRaises(NoDeed):
            first_unmet(1, [("by", 0, 10 ** 5000, 0)], [0])
