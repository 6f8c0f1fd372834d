"""Whether a paper tells that a book is thick, or what spoils it."""

from anyletter.books import is_row, read, spelled
from anyletter.checks import is_integer, is_list
from anyletter.edits import texts_behind
from anyletter.prices import price
from anyletter.thick import Broken, Thick, check_book, is_thick, reads_thickly

MOST_ROW_WORDS = 60


def is_short_row(book, row):
    """Whether it is a row of 1 to 60 numbers of words of the book."""
    return is_row(book, row) and 1 <= len(row) <= MOST_ROW_WORDS


def text_behind(text, edits, many):
    """The text behind a damage of at most many edits; None if it is no such damage of the text."""
    if not is_list(edits) or len(edits) > many:
        return None
    texts = texts_behind(text, edits)
    return None if texts is None else texts[-1]


def shows_broken(book, copies, many, value):
    """Whether it is right that this damage spoils this row."""
    if not is_short_row(book, value.row):
        return False
    left = text_behind(spelled(book, value.row, copies), value.edits, many)
    return left is not None and not reads_thickly(value.row, read(book, left))


def shows_book(book, copies, many, value):
    """Whether it is the Thick of the price of a thick book, or a Broken of any row and damage that spoil it."""
    check_book(book, copies, many)
    if isinstance(value, Thick) and value.__class__.__name__ == "Thick":
        cost = price(book)
        if value.price is not None and not is_integer(value.price):
            return False
        return value.price == cost and is_thick(cost, copies, many)
    if isinstance(value, Broken) and value.__class__.__name__ == "Broken":
        return shows_broken(book, copies, many, value)
    return False
