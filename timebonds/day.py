"""Lines done in a book, one after the other, and their answers."""

from timebonds.book import Book
from timebonds.errors import NoBond, NoDeed


def answers(count, lines):
    """The list of the answers to the lines, done in a book that is empty at first."""
    book = Book(count)
    return [answer_to(book, line) for line in lines]


def answer_to(book, line):
    """Do one line and give back its answer; a line that is refused changes nothing."""
    try:
        return outcome(book, line)
    except NoDeed:
        return "no deed"
    except NoBond:
        return "no bond"


def outcome(book, line):
    """Do one line and give back what comes of it; NoDeed and NoBond as the book refuses it."""
    if line[0] == "add":
        return book.add(line[1])
    if line[0] == "drop":
        book.drop(line[1])
        return "dropped"
    if line[0] == "times":
        return book.some_times()
    return book.most_later(line[1], line[2])
