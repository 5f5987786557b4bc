import copy
import itertools
import random
import unittest

from tests.oracle import BIG, ManyCases, are_times, follow, has_ring, holds, is_ring, leads, least_lengths, some_bonds
from timebonds.errors import NoDeed, NoTimes
from timebonds.search import settle, shortest_chain, steps_of


class SearchTest(unittest.TestCase):
    def check_settle(self, count, bonds, kind):
        answer = settle(count, steps_of(count, bonds))
        self.assertIsInstance(answer, tuple)
        self.assertEqual(len(answer), 2)
        self.assertEqual(answer[0], kind)
        if kind == "ring":
            self.assertTrue(is_ring(bonds, answer[1]), answer[1])
        else:
            self.assertTrue(are_times(count, bonds, answer[1]), answer[1])
        return answer[1]

    def check_chain(self, count, bonds, one, two, length):
        answer = shortest_chain(count, steps_of(count, bonds), one, two)
        if length is None:
            self.assertIsNone(answer)
            return None
        self.assertIsInstance(answer, tuple)
        self.assertEqual(len(answer), 2)
        self.assertEqual(answer[0], length)
        self.assertIsInstance(answer[1], list)
        self.assertEqual(follow(bonds, answer[1], one), (two, length))
        return answer[1]

    def check_all_chains(self, count, bonds):
        least = least_lengths(count, bonds)
        for one, two in itertools.product(range(count), repeat=2):
            self.check_chain(count, bonds, one, two, least[one][two])

    def check_no_times(self, count, bonds):
        steps = steps_of(count, bonds)
        for one, two in itertools.product(range(count), repeat=2):
            with self.assertRaises(NoTimes):
                shortest_chain(count, steps, one, two)

    def check_everything(self, count, bonds):
        if has_ring(count, bonds):
            self.check_settle(count, bonds, "ring")
            self.check_no_times(count, bonds)
        else:
            self.check_settle(count, bonds, "times")
            self.check_all_chains(count, bonds)


class Steps(unittest.TestCase):
    def test_a_bond_leads_as_point_4_tells(self):
        bonds = [("by", 0, 1, 5), ("after", 0, 1, 5), ("by", 1, 0, -5), ("after", 2, 0, -BIG), ("after", 1, 1, 0)]
        told = [(step.place, step.begin, step.end, step.most) for step in steps_of(3, bonds)]
        self.assertEqual(told, [(0, 0, 1, 5), (1, 1, 0, -5), (2, 1, 0, -5), (3, 0, 2, BIG), (4, 1, 1, 0)])
        self.assertEqual([row[1:] for row in told], [leads(bond) for bond in bonds])

    def test_no_bonds(self):
        self.assertEqual(steps_of(1, []), [])

    def test_deeds_that_there_are_not(self):
        ring = ("by", 0, 0, -1)
        for deed in (-1, 2, BIG, -BIG):
            for wrong in (("by", deed, 0, 0), ("by", 0, deed, 0), ("after", deed, 0, 0), ("after", 0, deed, 0)):
                for bonds in ([wrong], [wrong, ring], [ring, ring, wrong]):
                    with self.subTest(bonds=bonds):
                        with self.assertRaises(NoDeed):
                            steps_of(2, bonds)


class OneDeed(SearchTest):
    def test_no_bonds(self):
        self.assertEqual(self.check_settle(1, [], "times"), [0])
        self.assertEqual(self.check_chain(1, [], 0, 0, 0), [])

    def test_bonds_that_any_times_meet(self):
        for bond in (("by", 0, 0, 0), ("by", 0, 0, 7), ("after", 0, 0, 0), ("after", 0, 0, -7)):
            with self.subTest(bond=bond):
                self.check_settle(1, [bond, bond], "times")
                self.check_chain(1, [bond, bond], 0, 0, 0)

    def test_bonds_that_are_rings_by_themselves(self):
        for bond in (("by", 0, 0, -1), ("by", 0, 0, -BIG), ("after", 0, 0, 1), ("after", 0, 0, BIG)):
            with self.subTest(bond=bond):
                self.check_settle(1, [bond], "ring")
                self.check_settle(1, [("by", 0, 0, 5), bond, ("after", 0, 0, -5)], "ring")
                self.check_no_times(1, [bond])


class SeveralDeeds(SearchTest):
    def test_no_bonds(self):
        self.assertEqual(self.check_settle(4, [], "times"), [0, 0, 0, 0])
        self.check_all_chains(4, [])

    def test_a_chain_of_bonds_of_both_kinds(self):
        bonds = [("after", 2, 1, 4), ("by", 0, 1, 10), ("by", 2, 3, -3)]
        self.check_settle(4, bonds, "times")
        self.assertEqual(self.check_chain(4, bonds, 0, 3, 3), [1, 0, 2])
        self.check_all_chains(4, bonds)

    def test_no_chain_between_two_deeds(self):
        bonds = [("by", 0, 1, 1), ("by", 2, 1, 1)]
        self.check_chain(4, bonds, 0, 2, None)
        self.check_chain(4, bonds, 1, 0, None)
        self.check_chain(4, bonds, 0, 3, None)
        self.check_chain(4, bonds, 3, 0, None)

    def test_the_shorter_of_two_chains(self):
        bonds = [("by", 0, 2, 5), ("by", 0, 1, 9), ("by", 1, 2, -5)]
        self.assertEqual(self.check_chain(3, bonds, 0, 2, 4), [1, 2])
        bonds[0] = ("by", 0, 2, 3)
        self.assertEqual(self.check_chain(3, bonds, 0, 2, 3), [0])

    def test_the_shorter_of_two_bonds_between_the_same_deeds(self):
        bonds = [("by", 0, 1, 5), ("by", 0, 1, 4), ("after", 1, 0, -3), ("by", 0, 1, 6)]
        self.assertEqual(self.check_chain(2, bonds, 0, 1, 3), [2])

    def test_chains_of_length_nought(self):
        around = [("by", 0, 1, 4), ("after", 2, 1, 6), ("by", 2, 0, 2)]
        self.check_settle(3, around, "times")
        self.check_all_chains(3, around)
        self.check_chain(3, [("by", 0, 1, 4), ("by", 1, 2, -4)], 0, 2, 0)
        nothing = [("by", 0, 1, 0), ("after", 0, 1, 0), ("by", 1, 2, 0), ("after", 1, 2, 0), ("by", 1, 1, 0)]
        self.check_settle(3, nothing, "times")
        self.check_all_chains(3, nothing)

    def test_from_a_deed_to_itself_the_chain_is_empty(self):
        bonds = [("by", 0, 1, 4), ("by", 1, 0, -4), ("by", 1, 1, 2)]
        for deed in range(2):
            self.check_chain(2, bonds, deed, deed, 0)
        self.assertEqual(self.check_chain(2, [("by", 0, 0, 3)], 1, 1, 0), [])

    def test_rings_that_lack_just_one(self):
        self.check_settle(2, [("after", 0, 1, 5), ("by", 0, 1, 5)], "times")
        self.check_settle(2, [("after", 0, 1, 5), ("by", 0, 1, 4)], "ring")
        self.check_settle(2, [("after", 0, 1, BIG), ("by", 0, 1, BIG)], "times")
        self.check_settle(2, [("after", 0, 1, BIG), ("by", 0, 1, BIG - 1)], "ring")
        self.check_settle(2, [("after", 0, 1, -BIG), ("by", 0, 1, -BIG)], "times")
        self.check_settle(2, [("after", 0, 1, 1 - BIG), ("by", 0, 1, -BIG)], "ring")

    def test_a_ring_with_ways_into_it_and_out_of_it(self):
        bonds = [("by", 0, 1, -9), ("by", 1, 2, 1), ("by", 2, 3, 1), ("by", 3, 1, -3), ("by", 3, 4, -9),
                 ("by", 4, 5, -9), ("by", 0, 5, -99)]
        for order in itertools.islice(itertools.permutations(bonds), 0, None, 37):
            self.check_settle(6, list(order), "ring")
        self.check_no_times(6, bonds)

    def test_a_ring_that_the_first_deed_does_not_reach(self):
        bonds = [("by", 0, 1, 3), ("by", 2, 3, 1), ("by", 3, 2, -2)]
        self.assertEqual(sorted(self.check_settle(4, bonds, "ring")), [1, 2])
        self.check_no_times(4, bonds)

    def test_a_ring_of_a_deed_to_itself_among_others(self):
        bonds = [("by", 0, 1, 3), ("by", 1, 0, -3), ("after", 2, 2, 1), ("by", 0, 2, 0)]
        self.assertEqual(self.check_settle(3, bonds, "ring"), [2])
        self.check_no_times(3, bonds)

    def test_deeds_asked_for_that_there_are_not_come_ahead_of_no_times(self):
        ring = [("by", 0, 0, -1)]
        for bonds in ([], ring):
            steps = steps_of(2, bonds)
            for deed in (-1, -2, 2, BIG, -BIG):
                with self.subTest(bonds=bonds, deed=deed):
                    with self.assertRaises(NoDeed):
                        shortest_chain(2, steps, deed, 0)
                    with self.assertRaises(NoDeed):
                        shortest_chain(2, steps, 0, deed)

    def test_a_search_among_some_bonds_tells_their_places_among_all(self):
        bonds = [("by", 0, 2, 1), ("by", 0, 1, 2), ("by", 1, 2, 3), ("by", 2, 0, -6)]
        steps = steps_of(3, bonds)
        self.assertEqual(shortest_chain(3, steps[1:3], 0, 2), (5, [1, 2]))
        self.assertEqual(sorted(settle(3, steps[1:])[1]), [1, 2, 3])

    def test_nothing_handed_in_is_changed(self):
        for last in (("by", 2, 0, 3), ("by", 2, 0, -30)):
            bonds = [("after", 1, 0, 4), ("by", 1, 2, 5), last]
            before = copy.deepcopy(bonds)
            steps = steps_of(3, bonds)
            told = [(step.place, step.begin, step.end, step.most) for step in steps]
            settle(3, steps)
            try:
                shortest_chain(3, steps, 0, 2)
            except NoTimes:
                pass
            self.assertEqual(bonds, before)
            self.assertEqual([(step.place, step.begin, step.end, step.most) for step in steps], told)


class ManyBonds(ManyCases, SearchTest):
    def test_against_times_tried_one_by_one(self):
        chance = random.Random(1)
        for turn in range(300):
            bonds = some_bonds(chance, 3, chance.randint(1, 6), 2)
            # Chains without a ring have at most two bonds, so some times within 4 of the first meet all, if any do.
            tried = ((0, one, two) for one in range(-4, 5) for two in range(-4, 5))
            met = any(all(holds(bond, times) for bond in bonds) for times in tried)
            with self.subTest(bonds=bonds):
                self.check_settle(3, bonds, "times" if met else "ring")

    def test_thirty_deeds_and_a_hundred_bonds_with_rings(self):
        chance = random.Random(5)
        for turn in range(50):
            bonds = some_bonds(chance, 30, 100, BIG)
            with self.subTest(turn=turn):
                self.check_settle(30, bonds, "ring" if has_ring(30, bonds) else "times")

    def test_one_ring_through_all_thirty_deeds(self):
        chance = random.Random(6)
        for total in (0, -1):
            around = [("by", deed, deed + 1, deed - 15) for deed in range(29)]
            around.append(("after", 0, 29, sum(bond[3] for bond in around) - total))
            self.assertEqual(follow(around, range(30), 0), (0, total))
            kind = "ring" if total < 0 else "times"
            slack = [("by", chance.randrange(30), chance.randrange(30), 10 ** 6) for place in range(70)]
            falling = around[::-1] + slack
            rising = around + slack
            mixed = chance.sample(rising, 100)
            for bonds in (rising, falling, mixed):
                with self.subTest(kind=kind, bonds=bonds):
                    self.assertEqual(len(bonds), 100)
                    self.check_settle(30, bonds, kind)

    def test_a_chain_through_all_thirty_deeds_told_backwards(self):
        bonds = [("after", deed + 1, deed, BIG) for deed in range(29)][::-1] + [("by", 0, 29, 0)] * 71
        self.assertEqual(self.check_chain(30, bonds, 0, 29, -29 * BIG), list(range(28, -1, -1)))
        self.check_chain(30, bonds, 29, 0, None)
        times = self.check_settle(30, bonds, "times")
        self.assertLessEqual(times[29], -29 * BIG)
