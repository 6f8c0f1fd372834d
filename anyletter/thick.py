"""Rows that read thickly as others, and books in which damaged rows do so."""

from anyletter.books import MOST_COPIES, MOST_NUMBERS, MOST_WORDS, Book
from anyletter.checks import is_list, is_within
from anyletter.errors import BadBook, BadNumber, BadRow
from anyletter.papers import Denial, Paper
from anyletter.prices import MOST_MAKING_EDITS, cost_of_words, price_of


class Thick(Paper):
    """The price of a book that is thick, None for one word."""

    def __init__(self, price):
        super().__init__("thick", price)
        self.price = self.parts[0]


class Broken(Denial):
    """A row and a damage behind which it doesn't read thickly as what is read."""

    def __init__(self, row, edits):
        super().__init__("broken", row, edits)
        self.row, self.edits = self.parts


def are_numbers(value):
    """Whether it is a list of at most 10,000 integers from 0 to 39, the numbers of words of any book."""
    if not is_list(value) or len(value) > MOST_NUMBERS:
        return False
    return all([is_within(number, 0, MOST_WORDS - 1) for number in value])


def stretches_of(row):
    """The pairs (number, how often it stands side by side) of a row, in order."""
    found = []
    for number in row:
        if found != [] and found[-1][0] == number:
            found[-1] = (number, found[-1][1] + 1)
        else:
            found.append((number, 1))
    return found


def reads_thickly(row, other):
    """Whether other is the row with each of its numbers one or more times."""
    if not are_numbers(row):
        raise BadRow("row")
    if not are_numbers(other):
        raise BadRow("other")
    wanted, found = stretches_of(row), stretches_of(other)
    if [stretch[0] for stretch in wanted] != [stretch[0] for stretch in found]:
        return False
    return all([least[1] <= told[1] for least, told in zip(wanted, found)])


def is_thick(cost, copies, many):
    """Whether a book of this price, None for one word, is thick for so many copies and edits."""
    return copies > 2 * many and (cost is None or cost > many)


def check_book(book, copies, many):
    """Raises what is wrong with a book, copies and edits of which it is asked whether it is thick."""
    if not isinstance(book, Book):
        raise BadBook("book")
    if not is_within(copies, 1, MOST_COPIES):
        raise BadNumber("copies")
    if not is_within(many, 1, MOST_MAKING_EDITS):
        raise BadNumber("many")


def copies_lost(word, gone):
    """The edits, one for two copies, by which so many copies of a word at a text's beginning are no words any more.

    That they make no other word must be known: that the price is above 1, or the word alone.
    """
    width = len(word) + 1
    # From the right to the left, so that no edit moves the places of those that come behind it.
    edits = [("lost", pair * width - 1) for pair in range(1, gone, 2)][::-1]
    if gone % 2 == 1:
        edits = [("lost", (gone - 1) * width)] + edits
    return edits


def strange_in_copies(book, copies):
    """The Broken of a word that is made of a row, spelled with so many copies."""
    told = price_of(book)
    first = told.row[0]
    # The row with 1 copy stands in the one with more copies about the blank between both words, or at the end.
    by = (copies - 1) * told.row.count(first) * (len(book.words[first]) + 1)
    return Broken(told.row, [(edit[0], edit[1] + by) + edit[2:] for edit in told.edits])


def judged_book(book, copies, many):
    """The Thick of the book's price if it is thick, otherwise a Broken."""
    check_book(book, copies, many)
    cost = cost_of_words(book.words)
    if is_thick(cost, copies, many):
        return Thick(cost)
    if cost is not None and cost <= many:
        return strange_in_copies(book, copies)
    return Broken([0], copies_lost(book.words[0], copies))
