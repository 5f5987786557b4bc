"""What the document promises over the whole program, asked of each function of its interface."""

import copy
import inspect
import random
import unittest

from tests.oracle import BIG, bonds_around
from timebonds.bonds import first_unmet
from timebonds.day import answers
from timebonds.errors import BondError, NoDeed, NoTimes
from timebonds.spare import fewest, spares
from timebonds.times import most_between, ranges, times_at, times_or_ring

INTERFACE = {
    first_unmet: ["count", "bonds", "times"],
    times_or_ring: ["count", "bonds"],
    most_between: ["count", "bonds", "one", "two"],
    ranges: ["count", "bonds"],
    times_at: ["count", "bonds", "deed", "time"],
    spares: ["count", "bonds"],
    fewest: ["count", "bonds"],
    answers: ["count", "lines"],
}

# Each function that takes bonds, asked with deeds that there are.
ASKED = {
    "first_unmet": lambda count, bonds: first_unmet(count, bonds, [0] * count),
    "times_or_ring": times_or_ring,
    "most_between": lambda count, bonds: most_between(count, bonds, 0, count - 1),
    "ranges": ranges,
    "times_at": lambda count, bonds: times_at(count, bonds, count - 1, 0),
    "spares": spares,
    "fewest": fewest,
}
REFUSING = ("most_between", "ranges", "times_at", "spares", "fewest")

RINGS = ([("by", 0, 0, -1)], [("after", 1, 1, 1)], [("after", 0, 1, 5), ("by", 0, 1, 4)])


class Interface(unittest.TestCase):
    def test_names_and_arguments(self):
        for function, names in INTERFACE.items():
            with self.subTest(function=function.__name__):
                self.assertEqual(list(inspect.signature(function).parameters), names)

    def test_arguments_may_be_named(self):
        bonds = [("by", 0, 1, 3), ("after", 0, 1, 3)]
        self.assertEqual(first_unmet(count=2, bonds=bonds, times=[0, 3]), None)
        self.assertEqual(times_or_ring(count=2, bonds=bonds), ("times", [0, 3]))
        self.assertEqual(most_between(count=2, bonds=bonds, one=0, two=1), (3, [0]))
        self.assertEqual(ranges(count=2, bonds=bonds), [(0, 0), (3, 3)])
        self.assertEqual(times_at(count=2, bonds=bonds, deed=1, time=4), ("late", [0]))
        self.assertEqual([kind for kind, told in spares(count=2, bonds=bonds)], ["needed", "needed"])
        self.assertEqual(fewest(count=2, bonds=bonds), [0, 1])
        self.assertEqual(answers(count=2, lines=[("most", 0, 1)]), [None])


class DeedsThatThereAreNot(unittest.TestCase):
    def check_refused(self, asked, *arguments):
        for error in (NoDeed, BondError, ValueError):
            with self.assertRaises(error):
                asked(*arguments)

    def test_in_bonds(self):
        for name, asked in ASKED.items():
            for deed in (-1, -2, 2, 3, BIG, -BIG):
                for wrong in (("by", deed, 0, 0), ("by", 0, deed, 0), ("after", deed, 1, 5), ("after", 1, deed, -5)):
                    with self.subTest(name=name, wrong=wrong):
                        self.check_refused(asked, 2, [wrong])
                        self.check_refused(asked, 2, [("by", 0, 1, 3), wrong, ("by", 1, 0, 3)])

    def test_in_bonds_that_no_times_meet(self):
        for name, asked in ASKED.items():
            for ring in RINGS:
                for wrong in (("by", 2, 0, 0), ("after", 0, -1, 0), ("by", -1, -1, -1), ("after", 2, 2, 1)):
                    with self.subTest(name=name, ring=ring, wrong=wrong):
                        self.check_refused(asked, 2, [wrong] + ring)
                        self.check_refused(asked, 2, ring + [wrong])

    def test_as_the_deed_asked_for(self):
        for bonds in ([], [("by", 0, 1, 3)], *RINGS):
            for deed in (-1, -2, 2, 3, BIG, -BIG):
                with self.subTest(bonds=bonds, deed=deed):
                    self.check_refused(most_between, 2, bonds, deed, 0)
                    self.check_refused(most_between, 2, bonds, 0, deed)
                    self.check_refused(most_between, 2, bonds, deed, deed)
                    for time in (-BIG, -1, 0, 1, BIG):
                        self.check_refused(times_at, 2, bonds, deed, time)

    def test_one_deed_alone(self):
        for name, asked in ASKED.items():
            with self.subTest(name=name):
                self.check_refused(asked, 1, [("by", 0, 1, 0)])
                self.check_refused(asked, 1, [("after", -1, 0, 0)])

    def test_the_last_deed_is_there(self):
        for name, asked in ASKED.items():
            for count in (1, 2, 30):
                with self.subTest(name=name, count=count):
                    asked(count, [("by", count - 1, 0, 0), ("after", 0, count - 1, 0)])


class BondsThatNoTimesMeet(unittest.TestCase):
    def test_refused_with_no_times(self):
        for name in REFUSING:
            for ring in RINGS:
                for bonds in (ring, [("by", 0, 1, 9)] + ring, ring + [("after", 0, 1, -9)]):
                    for error in (NoTimes, BondError, ValueError):
                        with self.subTest(name=name, bonds=bonds, error=error.__name__):
                            with self.assertRaises(error):
                                ASKED[name](2, bonds)

    def test_where_the_ring_lies_apart_from_the_deeds_asked_for(self):
        bonds = [("by", 0, 1, 3), ("by", 2, 3, 1), ("by", 3, 2, -2)]
        for name in REFUSING:
            with self.subTest(name=name):
                with self.assertRaises(NoTimes):
                    ASKED[name](5, bonds)
        with self.assertRaises(NoTimes):
            most_between(5, bonds, 0, 0)
        with self.assertRaises(NoTimes):
            times_at(5, bonds, 0, 7)

    def test_not_refused_where_the_document_does_not_say_so(self):
        for ring in RINGS:
            self.assertEqual(times_or_ring(2, ring)[0], "ring")
            self.assertEqual(first_unmet(2, ring, [0, 0]), 0)


class WhatIsHandedIn(unittest.TestCase):
    def check_unchanged(self, asked, count, bonds):
        before = copy.deepcopy(bonds)
        try:
            asked(count, bonds)
        except BondError:
            pass
        self.assertEqual(bonds, before)

    def test_stays_as_it_was(self):
        met = [("after", 1, 0, 4), ("by", 1, 2, 5), ("by", 2, 2, 0), ("by", 1, 2, 5), ("after", 0, 2, -9)]
        for name, asked in ASKED.items():
            for bonds in (met, met + [("by", 2, 1, -30)], met + [("by", 2, 3, 0)]):
                with self.subTest(name=name, bonds=bonds):
                    self.check_unchanged(asked, 3, bonds)

    def test_times_at_of_each_outcome_leaves_bonds_as_they_were(self):
        bonds = [("after", 0, 1, 2), ("by", 0, 1, 4)]
        for time in range(1, 6):
            self.check_unchanged(lambda count, handed: times_at(count, handed, 1, time), 2, bonds)

    def test_answers_are_the_same_each_time(self):
        bonds = [("after", 0, 1, 2), ("by", 0, 1, 4), ("by", 1, 2, 3), ("by", 0, 2, 7)]
        for name, asked in ASKED.items():
            with self.subTest(name=name):
                self.assertEqual(asked(3, bonds), asked(3, copy.deepcopy(bonds)))

    def test_nothing_is_refused_that_lies_somewhat_beyond_the_bounds(self):
        chance = random.Random(41)
        huge = 10 ** 40
        times = [chance.randint(-huge, huge) for deed in range(40)]
        bonds = bonds_around(chance, times, 130, huge)
        for name, asked in ASKED.items():
            with self.subTest(name=name):
                asked(40, bonds)
        told = answers(40, [("add", bond) for bond in bonds] + [("times",)])
        self.assertEqual(told[:-1], list(range(130)))
        self.assertIsNone(first_unmet(40, bonds, told[-1]))
