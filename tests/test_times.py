import itertools
import random
import unittest

from tests.oracle import BIG, ManyCases, are_times, bonds_around, follow, has_ring, holds, is_ring, least_lengths
from timebonds.errors import NoTimes
from timebonds.times import most_between, ranges, times_at, times_or_ring


class TimesTest(unittest.TestCase):
    def check_pair(self, answer):
        self.assertIs(type(answer), tuple)
        self.assertEqual(len(answer), 2)

    def check_times_or_ring(self, count, bonds, kind):
        answer = times_or_ring(count, bonds)
        self.check_pair(answer)
        self.assertEqual(answer[0], kind)
        if kind == "times":
            self.assertTrue(are_times(count, bonds, answer[1]), answer[1])
        else:
            self.assertTrue(is_ring(bonds, answer[1]), answer[1])
        return answer[1]

    def check_most(self, count, bonds, one, two, length):
        answer = most_between(count, bonds, one, two)
        if length is None:
            self.assertIsNone(answer)
            return None
        self.check_pair(answer)
        self.assertEqual(answer[0], length)
        self.assertIs(type(answer[1]), list)
        self.assertEqual(follow(bonds, answer[1], one), (two, length))
        return answer[1]

    def check_ranges(self, count, bonds, pairs):
        answer = ranges(count, bonds)
        self.assertIs(type(answer), list)
        for pair in answer:
            self.check_pair(pair)
        self.assertEqual(answer, pairs)

    def check_times_at(self, count, bonds, deed, time, kind):
        answer = times_at(count, bonds, deed, time)
        self.check_pair(answer)
        self.assertEqual(answer[0], kind)
        self.assertIs(type(answer[1]), list)
        if kind == "times":
            self.assertTrue(are_times(count, bonds, answer[1]), answer[1])
            self.assertEqual(answer[1][deed], time)
        elif kind == "late":
            end, length = follow(bonds, answer[1], 0)
            self.assertEqual(end, deed)
            self.assertLess(length, time)
        else:
            end, length = follow(bonds, answer[1], deed)
            self.assertEqual(end, 0)
            self.assertGreater(-length, time)
        return answer[1]

    def check_times_around(self, count, bonds, deed, pair):
        """Times asked for at either end of a deed's range, beyond it, and within it."""
        earliest, latest = pair
        if earliest is not None:
            self.check_times_at(count, bonds, deed, earliest, "times")
            self.check_times_at(count, bonds, deed, earliest - 1, "early")
            self.check_times_at(count, bonds, deed, earliest - BIG, "early")
        if latest is not None:
            self.check_times_at(count, bonds, deed, latest, "times")
            self.check_times_at(count, bonds, deed, latest + 1, "late")
            self.check_times_at(count, bonds, deed, latest + BIG, "late")
        lowest = earliest if earliest is not None else (latest or 0) - BIG
        highest = latest if latest is not None else (earliest or 0) + BIG
        for time in {lowest, highest, (lowest + highest) // 2, min(lowest + 1, highest), max(highest - 1, lowest)}:
            self.check_times_at(count, bonds, deed, time, "times")

    def check_no_times(self, count, bonds):
        for asked in (
            lambda: most_between(count, bonds, 0, count - 1),
            lambda: most_between(count, bonds, count - 1, count - 1),
            lambda: ranges(count, bonds),
            lambda: times_at(count, bonds, 0, 0),
            lambda: times_at(count, bonds, 0, 1),
            lambda: times_at(count, bonds, count - 1, -BIG),
        ):
            with self.assertRaises(NoTimes):
                asked()

    def check_everything(self, count, bonds):
        if has_ring(count, bonds):
            self.check_times_or_ring(count, bonds, "ring")
            self.check_no_times(count, bonds)
            return
        self.check_times_or_ring(count, bonds, "times")
        least = least_lengths(count, bonds)
        for one, two in itertools.product(range(count), repeat=2):
            self.check_most(count, bonds, one, two, least[one][two])
        pairs = [(None if least[deed][0] is None else -least[deed][0], least[0][deed]) for deed in range(count)]
        self.check_ranges(count, bonds, pairs)
        for deed in range(count):
            self.check_times_around(count, bonds, deed, pairs[deed])


class TimesOrRing(TimesTest):
    def test_no_bonds(self):
        self.assertEqual(self.check_times_or_ring(1, [], "times"), [0])
        self.check_times_or_ring(3, [], "times")

    def test_one_deed(self):
        met = [("by", 0, 0, 0), ("after", 0, 0, 0), ("by", 0, 0, 3), ("after", 0, 0, -3)]
        self.assertEqual(self.check_times_or_ring(1, met, "times"), [0])
        self.assertEqual(self.check_times_or_ring(1, met + [("by", 0, 0, -1)], "ring"), [4])
        self.assertEqual(self.check_times_or_ring(1, [("after", 0, 0, 1)] + met, "ring"), [0])

    def test_bonds_that_can_be_met(self):
        self.check_times_or_ring(2, [("after", 0, 1, 5)], "times")
        self.check_times_or_ring(2, [("after", 1, 0, 5)], "times")
        self.check_times_or_ring(2, [("by", 0, 1, -5)], "times")
        self.check_times_or_ring(2, [("by", 1, 0, -5)], "times")
        self.assertEqual(self.check_times_or_ring(2, [("after", 0, 1, 5), ("by", 0, 1, 5)], "times"), [0, 5])
        self.assertEqual(self.check_times_or_ring(2, [("after", 1, 0, 5), ("by", 1, 0, 5)], "times"), [0, -5])

    def test_times_begin_with_nought_wherever_the_bonds_lie(self):
        self.check_times_or_ring(4, [("after", 2, 3, 5), ("by", 1, 0, -7), ("by", 3, 0, -2)], "times")
        self.check_times_or_ring(4, [("after", 0, 3, -5), ("after", 3, 0, 2)], "times")

    def test_a_ring_of_one_bond(self):
        bonds = [("by", 0, 1, 4), ("after", 0, 1, 4), ("by", 1, 1, -1)]
        self.assertEqual(self.check_times_or_ring(2, bonds, "ring"), [2])
        bonds[2] = ("after", 0, 0, BIG)
        self.assertEqual(self.check_times_or_ring(2, bonds, "ring"), [2])

    def test_a_ring_of_several_bonds(self):
        bonds = [("by", 0, 1, 4), ("after", 2, 1, 6), ("by", 2, 0, 1)]
        self.assertIn(self.check_times_or_ring(3, bonds, "ring"), ([0, 1, 2], [1, 2, 0], [2, 0, 1]))
        bonds[2] = ("by", 2, 0, 2)
        self.check_times_or_ring(3, bonds, "times")

    def test_a_ring_that_the_first_deed_is_no_part_of(self):
        bonds = [("by", 0, 1, 4), ("after", 1, 2, 3), ("by", 1, 2, 2), ("by", 2, 0, 9)]
        self.assertEqual(sorted(self.check_times_or_ring(3, bonds, "ring")), [1, 2])
        self.assertEqual(sorted(self.check_times_or_ring(5, [("after", 3, 4, 1), ("by", 3, 4, 0)], "ring")), [0, 1])


class MostBetween(TimesTest):
    def test_a_bond_of_either_kind(self):
        self.assertEqual(most_between(2, [("by", 0, 1, 5)], 0, 1), (5, [0]))
        self.assertEqual(most_between(2, [("after", 0, 1, 5)], 1, 0), (-5, [0]))
        self.assertIsNone(most_between(2, [("by", 0, 1, 5)], 1, 0))
        self.assertIsNone(most_between(2, [("after", 0, 1, 5)], 0, 1))

    def test_a_chain_with_both_kinds(self):
        bonds = [("after", 3, 1, -2), ("by", 2, 3, 7), ("after", 2, 0, 4)]
        self.assertEqual(self.check_most(4, bonds, 0, 3, 3), [2, 1])
        self.assertEqual(self.check_most(4, bonds, 1, 3, 2), [0])
        self.check_most(4, bonds, 3, 0, None)

    def test_the_least_length_of_several_chains(self):
        bonds = [("by", 0, 2, 6), ("by", 0, 1, 3), ("by", 1, 2, 2), ("by", 0, 2, 9)]
        self.assertEqual(self.check_most(3, bonds, 0, 2, 5), [1, 2])
        bonds[0] = ("by", 0, 2, 4)
        self.assertEqual(self.check_most(3, bonds, 0, 2, 4), [0])

    def test_where_no_chain_leads_there(self):
        self.check_most(2, [], 0, 1, None)
        self.check_most(3, [("by", 0, 1, 5), ("by", 2, 1, 5)], 0, 2, None)

    def test_the_same_deed_twice(self):
        bonds = [("by", 0, 1, 5), ("by", 1, 0, 3), ("by", 1, 1, 2)]
        for deed in range(3):
            self.assertEqual(most_between(3, bonds, deed, deed), (0, []))
        self.assertEqual(most_between(1, [], 0, 0), (0, []))

    def test_deeds_may_be_bound_to_come_just_so(self):
        bonds = [("by", 0, 1, 5), ("after", 0, 1, 5)]
        self.assertEqual(most_between(2, bonds, 0, 1), (5, [0]))
        self.assertEqual(most_between(2, bonds, 1, 0), (-5, [1]))
        self.assertEqual(most_between(2, bonds, 1, 1)[0], 0)

    def test_there_are_times_in_which_it_is_just_so_much_later(self):
        chance = random.Random(11)
        for turn in range(60):
            times = [chance.randint(-9, 9) for deed in range(5)]
            bonds = bonds_around(chance, times, 7, 4)
            for one, two in itertools.product(range(5), repeat=2):
                answer = most_between(5, bonds, one, two)
                most = BIG if answer is None else answer[0]
                with self.subTest(bonds=bonds, one=one, two=two):
                    self.assertFalse(has_ring(5, bonds + [("after", one, two, most)]))

    def test_a_ring_elsewhere(self):
        for ring in ([("by", 2, 2, -1)], [("after", 2, 3, 2), ("by", 2, 3, 1)]):
            self.check_no_times(4, [("by", 0, 1, 5)] + ring)


class Ranges(TimesTest):
    def test_the_first_deed_is_at_nought(self):
        self.check_ranges(1, [], [(0, 0)])
        self.check_ranges(1, [("by", 0, 0, 7), ("after", 0, 0, -7)], [(0, 0)])
        self.check_ranges(3, [], [(0, 0), (None, None), (None, None)])

    def test_one_end_or_both(self):
        self.check_ranges(2, [("after", 0, 1, 5)], [(0, 0), (5, None)])
        self.check_ranges(2, [("by", 0, 1, 5)], [(0, 0), (None, 5)])
        self.check_ranges(2, [("by", 1, 0, 5)], [(0, 0), (-5, None)])
        self.check_ranges(2, [("after", 1, 0, 5)], [(0, 0), (None, -5)])
        self.check_ranges(2, [("after", 0, 1, 5), ("by", 0, 1, 8)], [(0, 0), (5, 8)])
        self.check_ranges(2, [("after", 0, 1, 5), ("by", 0, 1, 5)], [(0, 0), (5, 5)])
        self.check_ranges(2, [("after", 0, 1, 0), ("by", 0, 1, 0)], [(0, 0), (0, 0)])

    def test_by_way_of_other_deeds(self):
        bonds = [("after", 0, 1, 2), ("by", 0, 1, 4), ("after", 1, 2, 3), ("by", 2, 3, -1), ("by", 2, 0, -6)]
        self.check_ranges(4, bonds, [(0, 0), (2, 4), (6, None), (None, None)])

    def test_bonds_that_bind_others_alone(self):
        self.check_ranges(3, [("after", 1, 2, 5), ("by", 1, 2, 8)], [(0, 0), (None, None), (None, None)])

    def test_against_times_tried_one_by_one(self):
        chance = random.Random(12)
        # Chains without a ring say at most 4 here, so a deed without an end can come at 5, the other within 9 then.
        tried = list(itertools.product((0,), range(-9, 10), range(-9, 10)))
        for turn in range(200):
            bonds = bonds_around(chance, [0, chance.randint(-1, 1), chance.randint(-1, 1)], chance.randint(0, 6), 2)
            bonds = [(kind, one, two, max(-2, min(2, number))) for kind, one, two, number in bonds]
            met = [times for times in tried if all(holds(bond, times) for bond in bonds)]
            pairs = []
            for deed in range(3):
                earliest, latest = min(times[deed] for times in met), max(times[deed] for times in met)
                pairs.append((earliest if earliest > -5 else None, latest if latest < 5 else None))
            with self.subTest(bonds=bonds):
                self.check_ranges(3, bonds, pairs)


class TimesAt(TimesTest):
    def test_at_either_end_between_and_beyond(self):
        bonds = [("after", 0, 1, 2), ("by", 0, 1, 3), ("after", 1, 2, 1), ("by", 1, 2, 4)]
        kinds = {time: "times" for time in range(3, 8)}
        for time in (-BIG, -3, 0, 2):
            kinds[time] = "early"
        for time in (8, 9, BIG):
            kinds[time] = "late"
        for time in kinds:
            with self.subTest(time=time):
                self.check_times_at(3, bonds, 2, time, kinds[time])
        self.assertEqual(times_at(3, bonds, 2, 2), ("early", [2, 0]))
        self.assertEqual(times_at(3, bonds, 2, 8), ("late", [1, 3]))

    def test_the_first_deed(self):
        for count, bonds in ((1, []), (2, [("by", 0, 1, 3), ("by", 1, 0, 3)])):
            self.check_times_at(count, bonds, 0, 0, "times")
            self.assertEqual(times_at(count, bonds, 0, 1), ("late", []))
            self.assertEqual(times_at(count, bonds, 0, -1), ("early", []))

    def test_a_deed_without_ends(self):
        for bonds in ([], [("by", 1, 2, 3), ("by", 2, 1, 3)]):
            for time in (-BIG, -1, 0, 1, BIG):
                self.check_times_at(3, bonds, 1, time, "times")

    def test_a_deed_with_one_end(self):
        self.check_times_at(2, [("after", 0, 1, 5)], 1, BIG, "times")
        self.check_times_at(2, [("after", 0, 1, 5)], 1, 5, "times")
        self.assertEqual(times_at(2, [("after", 0, 1, 5)], 1, 4), ("early", [0]))
        self.check_times_at(2, [("by", 0, 1, 5)], 1, -BIG, "times")
        self.check_times_at(2, [("by", 0, 1, 5)], 1, 5, "times")
        self.assertEqual(times_at(2, [("by", 0, 1, 5)], 1, 6), ("late", [0]))

    def test_a_deed_with_one_time_alone(self):
        bonds = [("after", 1, 0, 5), ("by", 1, 0, 5)]
        self.check_times_at(2, bonds, 1, -5, "times")
        self.assertEqual(times_at(2, bonds, 1, -4), ("late", [0]))
        self.assertEqual(times_at(2, bonds, 1, -6), ("early", [1]))

    def test_times_between_the_ends_meet_the_bonds_of_other_deeds_too(self):
        bonds = [("after", 1, 2, 10), ("by", 1, 2, 10), ("by", 0, 2, 20), ("after", 3, 1, 1), ("by", 3, 1, 1)]
        for time in range(-20, 11):
            self.check_times_at(4, bonds, 1, time, "times")
        self.assertEqual(times_at(4, bonds, 1, 11), ("late", [2, 0]))

    def test_every_time_of_a_range(self):
        chance = random.Random(13)
        for turn in range(60):
            times = [0] + [chance.randint(-5, 5) for deed in range(3)]
            bonds = bonds_around(chance, times, 8, 3)
            for deed, pair in enumerate(ranges(4, bonds)):
                earliest = -40 if pair[0] is None else pair[0]
                latest = 40 if pair[1] is None else pair[1]
                for time in range(earliest, latest + 1):
                    self.check_times_at(4, bonds, deed, time, "times")


class ManyBonds(ManyCases, TimesTest):
    def test_a_chain_through_all_thirty_deeds(self):
        bonds = [("after", deed + 1, deed, -BIG) for deed in range(29)][::-1]
        self.assertEqual(self.check_most(30, bonds, 0, 29, 29 * BIG), list(range(28, -1, -1)))
        self.check_ranges(30, bonds, [(0, 0)] + [(None, deed * BIG) for deed in range(1, 30)])
        self.check_times_at(30, bonds, 29, 29 * BIG, "times")
        self.check_times_at(30, bonds, 29, 29 * BIG + 1, "late")
