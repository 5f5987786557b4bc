import unittest

from tests.oracle import BIG, are_times
from timebonds.book import Book
from timebonds.errors import NoBond, NoDeed


class Books(unittest.TestCase):
    def test_an_empty_book(self):
        book = Book(3)
        self.assertTrue(are_times(3, [], book.some_times()))
        self.assertEqual(book.most_later(1, 1), (0, []))
        self.assertIsNone(book.most_later(0, 1))

    def test_numbers_go_on_behind_those_that_stay_out_and_those_that_go(self):
        book = Book(2)
        self.assertEqual(book.add(("after", 0, 1, 5)), 0)
        self.assertIn(book.add(("by", 0, 1, 4)), ([0, 1], [1, 0]))
        self.assertEqual(book.add(("by", 0, 1, 6)), 2)
        book.drop(2)
        self.assertEqual(book.add(("by", 0, 1, 7)), 3)
        self.assertEqual(book.most_later(0, 1), (7, [3]))
        self.assertEqual(book.most_later(1, 0), (-5, [0]))

    def test_a_bond_that_is_not_there_is_refused(self):
        book = Book(2)
        book.add(("after", 0, 1, 5))
        book.add(("by", 0, 1, 4))
        for number in (1, 2, -1, BIG, -BIG):
            with self.subTest(number=number):
                with self.assertRaises(NoBond):
                    book.drop(number)
        book.drop(0)
        with self.assertRaises(NoBond):
            book.drop(0)

    def test_a_deed_that_is_not_there_is_refused_and_changes_nothing(self):
        book = Book(2)
        for deed in (-1, 2, BIG, -BIG):
            for bond in (("by", 0, deed, 1), ("after", deed, 1, 1)):
                with self.assertRaises(NoDeed):
                    book.add(bond)
            for one, two in ((0, deed), (deed, 0), (deed, deed)):
                with self.assertRaises(NoDeed):
                    book.most_later(one, two)
        self.assertEqual(book.add(("by", 0, 1, 1)), 0)

    def test_two_books_keep_their_own_bonds(self):
        first = Book(2)
        second = Book(2)
        first.add(("by", 0, 1, -5))
        self.assertIsNone(second.most_later(0, 1))
        self.assertEqual(second.add(("after", 0, 1, 5)), 0)
