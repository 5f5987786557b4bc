import itertools
import random
import unittest

from tests.oracle import BIG, ManyCases, are_times, follow, has_ring, holds, leads, least_lengths, some_bonds
from timebonds.errors import NoTimes
from timebonds.spare import fewest, spares


def without(bonds, place):
    return bonds[:place] + bonds[place + 1:]


def follows(count, bonds, bond):
    """Whether a chain of the bonds gives that bond already."""
    begin, end, most = leads(bond)
    length = least_lengths(count, bonds)[begin][end]
    return length is not None and length <= most


def left_in_the_end(count, bonds):
    """Point 11, word by word."""
    left = list(range(len(bonds)))
    for place in range(len(bonds) - 1, -1, -1):
        others = [other for other in left if other != place]
        if follows(count, [bonds[other] for other in others], bonds[place]):
            left = others
    return left


class SpareTest(unittest.TestCase):
    def check_answer(self, count, bonds, place, answer, kind):
        self.assertIs(type(answer), tuple)
        self.assertEqual(len(answer), 2)
        self.assertEqual(answer[0], kind)
        self.assertIs(type(answer[1]), list)
        if kind == "spare":
            begin, end, most = leads(bonds[place])
            self.assertNotIn(place, answer[1])
            reached, length = follow(bonds, answer[1], begin)
            self.assertEqual(reached, end)
            self.assertLessEqual(length, most)
        else:
            self.assertTrue(are_times(count, without(bonds, place), answer[1]), answer[1])
            self.assertFalse(holds(bonds[place], answer[1]), answer[1])

    def check_spares(self, count, bonds, kinds):
        answer = spares(count, bonds)
        self.assertIs(type(answer), list)
        self.assertEqual(len(answer), len(bonds))
        for place, kind in enumerate(kinds):
            self.check_answer(count, bonds, place, answer[place], kind)
        return answer

    def check_fewest(self, count, bonds, places):
        answer = fewest(count, bonds)
        self.assertIs(type(answer), list)
        self.assertEqual(answer, places)
        left = [bonds[place] for place in answer]
        for bond in bonds:
            self.assertTrue(follows(count, left, bond), bond)
        for place, bond in enumerate(left):
            self.assertFalse(follows(count, without(left, place), bond), bond)

    def check_no_times(self, count, bonds):
        for asked in (spares, fewest):
            with self.assertRaises(NoTimes):
                asked(count, bonds)

    def check_everything(self, count, bonds):
        if has_ring(count, bonds):
            self.check_no_times(count, bonds)
            return
        kinds = []
        for place, bond in enumerate(bonds):
            kinds.append("spare" if follows(count, without(bonds, place), bond) else "needed")
        self.check_spares(count, bonds, kinds)
        self.check_fewest(count, bonds, left_in_the_end(count, bonds))


class Spares(SpareTest):
    def test_no_bonds(self):
        self.check_spares(1, [], [])
        self.check_spares(4, [], [])

    def test_one_bond_alone(self):
        for bond in (("by", 0, 1, 5), ("by", 1, 0, -5), ("after", 0, 1, 5), ("after", 1, 0, -5), ("by", 1, 2, 0)):
            self.check_spares(3, [bond], ["needed"])

    def test_a_bond_that_follows_from_a_chain(self):
        bonds = [("by", 0, 1, 2), ("by", 1, 2, 3), ("by", 0, 2, 5)]
        answer = self.check_spares(3, bonds, ["needed", "needed", "spare"])
        self.assertEqual(answer[2], ("spare", [0, 1]))
        bonds[2] = ("by", 0, 2, 6)
        self.check_spares(3, bonds, ["needed", "needed", "spare"])
        bonds[2] = ("by", 0, 2, 4)
        self.check_spares(3, bonds, ["needed", "needed", "needed"])

    def test_a_chain_is_told_by_places_among_all_bonds(self):
        bonds = [("by", 0, 2, 5), ("by", 1, 2, 3), ("by", 3, 3, 0), ("by", 0, 1, 2)]
        answer = self.check_spares(4, bonds, ["spare", "needed", "spare", "needed"])
        self.assertEqual(answer[0], ("spare", [3, 1]))

    def test_bonds_of_either_kind(self):
        bonds = [("after", 1, 0, -2), ("after", 2, 1, -3), ("after", 2, 0, -5)]
        self.assertEqual(self.check_spares(3, bonds, ["needed", "needed", "spare"])[2], ("spare", [0, 1]))
        bonds[2] = ("after", 2, 0, -4)
        self.check_spares(3, bonds, ["needed", "needed", "needed"])
        bonds = [("after", 0, 1, 2), ("after", 1, 2, 3), ("after", 0, 2, 5)]
        self.assertEqual(self.check_spares(3, bonds, ["needed", "needed", "spare"])[2], ("spare", [1, 0]))
        bonds[2] = ("after", 0, 2, 6)
        self.check_spares(3, bonds, ["needed", "needed", "needed"])

    def test_one_bond_told_in_both_kinds(self):
        answer = self.check_spares(2, [("by", 0, 1, 5), ("after", 1, 0, -5)], ["spare", "spare"])
        self.assertEqual(answer, [("spare", [1]), ("spare", [0])])

    def test_a_bond_that_stands_in_the_list_twice(self):
        for bond in (("by", 0, 1, 5), ("after", 0, 1, 5), ("by", 1, 0, -5)):
            answer = self.check_spares(2, [bond, bond], ["spare", "spare"])
            self.assertEqual(answer, [("spare", [1]), ("spare", [0])])
            self.check_spares(2, [bond, ("by", 1, 1, 0), bond], ["spare", "spare", "spare"])

    def test_a_tighter_bond_and_a_looser_one(self):
        self.check_spares(2, [("by", 0, 1, 5), ("by", 0, 1, 6)], ["needed", "spare"])
        self.check_spares(2, [("after", 0, 1, 5), ("after", 0, 1, 6)], ["spare", "needed"])

    def test_a_bond_of_a_deed_with_itself(self):
        for bond in (("by", 1, 1, 0), ("by", 1, 1, BIG), ("after", 1, 1, 0), ("after", 0, 0, -BIG)):
            self.assertEqual(self.check_spares(2, [bond], ["spare"]), [("spare", [])])
        self.check_spares(2, [("by", 0, 1, 1), ("by", 1, 0, -1), ("by", 1, 1, 0)], ["needed", "needed", "spare"])

    def test_needed_by_one_alone(self):
        bonds = [("by", 0, 1, 5), ("after", 0, 1, 5), ("by", 0, 2, 3), ("by", 2, 1, 3)]
        self.check_spares(3, bonds, ["needed", "needed", "needed", "needed"])
        bonds[3] = ("by", 2, 1, 2)
        self.check_spares(3, bonds, ["spare", "needed", "needed", "needed"])

    def test_needed_times_begin_with_nought(self):
        answer = self.check_spares(4, [("after", 2, 3, 7), ("by", 3, 0, -4), ("by", 1, 3, 9)], ["needed"] * 3)
        self.assertEqual([times[0] for kind, times in answer], [0, 0, 0])

    def test_deeds_that_are_bound_to_come_together(self):
        around = [("by", 0, 1, 0), ("by", 1, 2, 0), ("by", 2, 0, 0)]
        self.check_spares(3, around, ["needed"] * 3)
        back = [("by", 1, 0, 0), ("by", 2, 1, 0), ("by", 0, 2, 0)]
        self.check_spares(3, around + back, ["spare"] * 6)

    def test_against_times_tried_one_by_one(self):
        chance = random.Random(21)
        # Chains without a ring say at most 4 here, so where times lack a bond at all, some within 8 do.
        tried = list(itertools.product((0,), range(-8, 9), range(-8, 9)))
        for turn in range(200):
            bonds = some_bonds(chance, 3, chance.randint(1, 5), 2)
            if has_ring(3, bonds):
                continue
            kinds = []
            for place, bond in enumerate(bonds):
                met = [times for times in tried if all(holds(other, times) for other in without(bonds, place))]
                kinds.append("spare" if all(holds(bond, times) for times in met) else "needed")
            with self.subTest(bonds=bonds):
                self.check_spares(3, bonds, kinds)

    def test_bonds_that_no_times_meet(self):
        self.check_no_times(1, [("by", 0, 0, -1)])
        self.check_no_times(2, [("by", 0, 1, 1), ("after", 0, 1, 2)])
        self.check_no_times(4, [("by", 0, 1, 1), ("by", 2, 3, 1), ("by", 3, 2, -2)])
        # A ring that needs just one bond: the others alone could be met.
        self.check_no_times(3, [("by", 0, 1, 1), ("by", 1, 2, 1), ("by", 2, 0, -3)])


class Fewest(SpareTest):
    def test_no_bonds(self):
        self.check_fewest(1, [], [])
        self.check_fewest(3, [], [])

    def test_none_is_spare(self):
        self.check_fewest(3, [("by", 0, 1, 2), ("by", 1, 2, 3), ("by", 0, 2, 4)], [0, 1, 2])

    def test_one_is_spare_wherever_it_stands(self):
        self.check_fewest(3, [("by", 0, 1, 2), ("by", 1, 2, 3), ("by", 0, 2, 5)], [0, 1])
        self.check_fewest(3, [("by", 0, 2, 5), ("by", 0, 1, 2), ("by", 1, 2, 3)], [1, 2])
        self.check_fewest(3, [("by", 0, 1, 2), ("by", 0, 2, 5), ("by", 1, 2, 3)], [0, 2])

    def test_a_bond_that_stands_in_the_list_twice_stays_where_it_stands_first(self):
        bond = ("after", 0, 1, 4)
        self.check_fewest(2, [bond, bond], [0])
        self.check_fewest(2, [bond, bond, bond], [0])
        self.check_fewest(2, [("by", 0, 1, 9), bond, bond], [0, 1])
        self.check_fewest(2, [("by", 1, 0, -4), bond], [0])

    def test_a_bond_of_a_deed_with_itself_is_left_out(self):
        self.check_fewest(1, [("by", 0, 0, 0), ("after", 0, 0, 0)], [])
        self.check_fewest(2, [("by", 1, 1, 3), ("by", 0, 1, 2), ("after", 0, 0, -1)], [1])

    def test_looked_at_from_the_last_to_the_first(self):
        # All six are spare at first; which are left hangs on where the looking begins.
        around = [("by", 0, 1, 0), ("by", 1, 2, 0), ("by", 2, 0, 0)]
        back = [("by", 1, 0, 0), ("by", 2, 1, 0), ("by", 0, 2, 0)]
        self.check_fewest(3, around + back, [0, 1, 2])
        self.check_fewest(3, back + around, [0, 1, 2])
        mixed = [around[0], back[0], around[1], back[1], around[2], back[2]]
        self.check_fewest(3, mixed, [0, 1, 2, 3])

    def test_among_those_that_are_still_there(self):
        # The last two follow from one another: once the one is left out, the other is needed.
        bonds = [("by", 0, 1, 0), ("by", 1, 0, 0), ("by", 0, 2, 3), ("by", 1, 2, 3)]
        self.check_spares(3, bonds, ["needed", "needed", "spare", "spare"])
        self.check_fewest(3, bonds, [0, 1, 2])


class ManyBonds(ManyCases, SpareTest):
    def test_a_hundred_times_the_same_bond(self):
        bonds = [("after", 3, 29, BIG)] * 100
        self.check_spares(30, bonds, ["spare"] * 100)
        self.check_fewest(30, bonds, [0])
