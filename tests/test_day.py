import copy
import random
import unittest

from tests.oracle import BIG, are_times, follow, has_ring, is_ring, least_lengths
from timebonds.day import answers


def deeds_of(line):
    if line[0] == "add":
        return line[1][1:3]
    if line[0] == "most":
        return line[1:]
    return ()


class DayTest(unittest.TestCase):
    def check(self, count, lines):
        """Hold every answer against points 12 and 13, by a book of bonds kept here; gives back the answers."""
        told = answers(count, lines)
        self.assertIs(type(told), list)
        self.assertEqual(len(told), len(lines))
        numbered = []
        there = {}
        for line, answer in zip(lines, told):
            with self.subTest(line=line, there=there):
                if any(not 0 <= deed < count for deed in deeds_of(line)):
                    self.assertEqual(answer, "no deed")
                elif line[0] == "add":
                    self.check_add(count, numbered, there, line[1], answer)
                elif line[0] == "drop":
                    known = there.pop(line[1], None) is not None
                    self.assertEqual(answer, "dropped" if known else "no bond")
                elif line[0] == "times":
                    self.assertTrue(are_times(count, there.values(), answer), answer)
                else:
                    self.check_most(count, numbered, there, line, answer)
        return told

    def check_add(self, count, numbered, there, bond, answer):
        number = len(numbered)
        numbered.append(bond)
        if has_ring(count, [*there.values(), bond]):
            self.assertTrue(is_ring(numbered, answer), answer)
            self.assertIn(number, answer)
            self.assertLessEqual(set(answer), {number, *there})
        else:
            self.assertIs(type(answer), int)
            self.assertEqual(answer, number)
            there[number] = bond

    def check_most(self, count, numbered, there, line, answer):
        length = least_lengths(count, there.values())[line[1]][line[2]]
        if length is None:
            self.assertIsNone(answer)
            return
        self.assertIs(type(answer), tuple)
        self.assertEqual(len(answer), 2)
        self.assertEqual(answer[0], length)
        self.assertIs(type(answer[1]), list)
        self.assertLessEqual(set(answer[1]), set(there))
        self.assertEqual(follow(numbered, answer[1], line[1]), (line[2], length))


class Lines(DayTest):
    def test_no_lines(self):
        self.assertEqual(answers(1, []), [])
        self.assertEqual(answers(30, []), [])

    def test_an_empty_book(self):
        told = self.check(2, [("times",), ("most", 0, 1), ("most", 1, 1), ("drop", 0)])
        self.assertEqual(told[1:], [None, (0, []), "no bond"])
        self.assertEqual(self.check(1, [("times",)]), [[0]])

    def test_a_bond_that_comes_in(self):
        lines = [("add", ("after", 0, 1, 5)), ("times",), ("add", ("by", 0, 1, 5)), ("times",)]
        told = self.check(2, lines)
        self.assertEqual(told[0], 0)
        self.assertEqual(told[2:], [1, [0, 5]])

    def test_a_bond_that_stays_out(self):
        lines = [
            ("add", ("after", 0, 1, 5)), ("add", ("by", 0, 1, 4)), ("most", 0, 1), ("add", ("by", 0, 1, 6)),
            ("most", 0, 1), ("times",),
        ]
        told = self.check(2, lines)
        self.assertEqual(told[0], 0)
        self.assertIn(told[1], ([0, 1], [1, 0]))
        self.assertEqual(told[2:5], [None, 2, (6, [2])])

    def test_a_bond_that_is_a_ring_by_itself(self):
        lines = [("add", ("by", 1, 1, 0)), ("add", ("by", 1, 1, -1)), ("add", ("after", 0, 0, 1)), ("times",),
                 ("add", ("after", 0, 0, 0))]
        told = self.check(2, lines)
        self.assertEqual(told[:3] + told[4:], [0, [1], [2], 3])

    def test_a_ring_of_several_bonds_is_told_in_its_order(self):
        lines = [
            ("add", ("by", 2, 0, 1)), ("add", ("by", 1, 1, 9)), ("add", ("after", 2, 1, 6)), ("add", ("by", 0, 1, 4)),
            ("add", ("by", 0, 1, 5)), ("times",),
        ]
        told = self.check(3, lines)
        self.assertEqual(told[:3], [0, 1, 2])
        self.assertIn(told[3], ([0, 3, 2], [3, 2, 0], [2, 0, 3]))
        self.assertEqual(told[4], 4)

    def test_a_bond_that_stayed_out_can_come_in_later_under_another_number(self):
        lines = [
            ("add", ("after", 0, 1, 5)), ("add", ("by", 0, 1, 4)), ("drop", 0), ("add", ("by", 0, 1, 4)),
            ("most", 0, 1), ("most", 1, 0),
        ]
        told = self.check(2, lines)
        self.assertEqual(told[2:], ["dropped", 2, (4, [2]), None])

    def test_drop(self):
        lines = [
            ("add", ("by", 0, 1, 3)), ("add", ("by", 0, 1, 4)), ("add", ("by", 0, 1, 5)), ("most", 0, 1),
            ("drop", 0), ("most", 0, 1), ("drop", 2), ("most", 0, 1), ("drop", 1), ("most", 0, 1),
        ]
        told = self.check(2, lines)
        self.assertEqual(told[3:], [(3, [0]), "dropped", (4, [1]), "dropped", (4, [1]), "dropped", None])

    def test_drop_of_a_number_that_is_not_there(self):
        lines = [("drop", 0), ("add", ("by", 0, 1, 3)), ("drop", 1), ("drop", -1), ("drop", BIG), ("drop", -BIG)]
        lines += [("most", 0, 1), ("add", ("by", 0, 1, 2))]
        told = self.check(2, lines)
        self.assertEqual(told, ["no bond", 0, "no bond", "no bond", "no bond", "no bond", (3, [0]), 1])

    def test_drop_of_one_that_stayed_out(self):
        lines = [("add", ("by", 0, 1, -3)), ("add", ("by", 1, 0, 2)), ("drop", 1), ("most", 0, 1), ("drop", 0)]
        told = self.check(2, lines)
        self.assertEqual(told[2:], ["no bond", (-3, [0]), "dropped"])

    def test_drop_of_one_that_went_already(self):
        lines = [("add", ("by", 0, 1, 3)), ("drop", 0), ("drop", 0), ("add", ("by", 0, 1, 3)), ("drop", 0)]
        self.assertEqual(self.check(2, lines), [0, "dropped", "no bond", 1, "no bond"])

    def test_a_bond_that_comes_in_twice_has_two_numbers(self):
        lines = [("add", ("by", 0, 1, 3)), ("add", ("by", 0, 1, 3)), ("drop", 0), ("most", 0, 1), ("drop", 1)]
        self.assertEqual(self.check(2, lines), [0, 1, "dropped", (3, [1]), "dropped"])

    def test_most_tells_its_chain_by_numbers(self):
        lines = [
            ("add", ("by", 0, 0, -1)), ("add", ("by", 1, 2, 3)), ("add", ("by", 0, 2, 9)), ("drop", 2),
            ("add", ("after", 1, 0, -4)), ("most", 0, 2), ("most", 2, 0), ("most", 2, 2),
        ]
        told = self.check(3, lines)
        self.assertEqual(told[5:], [(7, [3, 1]), None, (0, [])])

    def test_times_follow_what_comes_and_goes(self):
        lines = [
            ("add", ("after", 0, 1, 5)), ("times",), ("add", ("after", 2, 0, 5)), ("times",), ("drop", 0),
            ("add", ("by", 0, 1, -9)), ("times",), ("drop", 1), ("add", ("after", 0, 2, 1)), ("times",),
        ]
        self.check(3, lines)

    def test_every_day_begins_with_an_empty_book(self):
        lines = [("add", ("by", 0, 1, -1)), ("most", 0, 1)]
        for day in range(2):
            self.assertEqual(answers(2, lines), [0, (-1, [0])])


class DeedsThatThereAreNot(DayTest):
    def test_they_get_no_number_and_change_nothing(self):
        lines = [
            ("add", ("by", 0, 2, 3)), ("add", ("by", 0, 1, 3)), ("add", ("after", -1, 0, -9)), ("most", 0, 2),
            ("most", -1, 0), ("add", ("by", 1, 0, 3)), ("drop", 2), ("times",), ("most", 0, 1),
        ]
        told = self.check(2, lines)
        self.assertEqual(told[:7], ["no deed", 0, "no deed", "no deed", "no deed", 1, "no bond"])
        self.assertEqual(told[8], (3, [0]))

    def test_as_either_deed(self):
        for count in (1, 2, 30):
            for deed in (-1, -count, count, count + 1, BIG, -BIG):
                lines = []
                for one, two in ((0, deed), (deed, 0), (deed, deed)):
                    lines += [("add", ("by", one, two, 0)), ("add", ("after", one, two, 0)), ("most", one, two)]
                with self.subTest(count=count, deed=deed):
                    self.assertEqual(answers(count, lines), ["no deed"] * 9)

    def test_the_last_deed_is_there(self):
        for count in (1, 2, 30):
            lines = [("add", ("by", 0, count - 1, 0)), ("most", 0, count - 1), ("most", count - 1, count - 1)]
            told = self.check(count, lines)
            self.assertEqual(told[0], 0)
            self.assertEqual(told[2], (0, []))

    def test_also_where_the_bond_could_not_be_met(self):
        lines = [("add", ("by", 2, 2, -1)), ("add", ("after", -1, -1, 1)), ("add", ("by", 1, 1, -1))]
        self.assertEqual(self.check(2, lines), ["no deed", "no deed", [0]])


class ManyLines(DayTest):
    def some_line(self, chance, count, size, reach):
        """A line as the dice fall; now and then with a deed or a bond that there isn't."""
        deeds = [chance.randrange(count) if chance.random() < 0.95 else chance.choice((-1, count)) for end in range(2)]
        kind = chance.choice(("add", "add", "add", "drop", "times", "most"))
        if kind == "add":
            return ("add", (chance.choice(("after", "by")), *deeds, chance.randint(-reach // 2, reach)))
        if kind == "drop":
            return ("drop", chance.randint(-1, size))
        if kind == "times":
            return ("times",)
        return ("most", *deeds)

    def test_short_days_as_the_dice_fall(self):
        chance = random.Random(31)
        for turn in range(250):
            count = chance.randint(1, 5)
            reach = chance.choice((1, 4, BIG))
            size = chance.randint(0, 25)
            self.check(count, [self.some_line(chance, count, size // 2, reach) for place in range(size)])

    def test_thirty_deeds_a_hundred_lines_and_thirty_two_figures(self):
        chance = random.Random(32)
        for turn in range(3):
            told = self.check(30, [self.some_line(chance, 30, 50, BIG) for place in range(100)])
            self.assertIn("dropped", told)
            self.assertIn("no bond", told)
            self.assertIn("no deed", told)

    def test_a_ring_through_all_thirty_deeds(self):
        bonds = [("after", deed + 1, deed, -BIG) for deed in range(29)]
        bonds += [("by", 29, 0, -29 * BIG - 1), ("by", 29, 0, -29 * BIG)]
        lines = [("add", bond) for bond in bonds] + [("times",), ("most", 0, 29), ("most", 29, 0)]
        told = self.check(30, lines)
        self.assertEqual(told[:29], list(range(29)))
        self.assertEqual(sorted(told[29]), list(range(30)))
        self.assertEqual(told[30:], [30, [deed * BIG for deed in range(30)], (29 * BIG, list(range(29))),
                                     (-29 * BIG, [30])])

    def test_lines_stay_as_they_were_handed_in(self):
        chance = random.Random(33)
        lines = [self.some_line(chance, 4, 20, 5) for place in range(60)]
        before = copy.deepcopy(lines)
        answers(4, lines)
        self.assertEqual(lines, before)
