"""Whether a paper tells the price of a book."""

from anyletter.books import Book, is_row, spelled
from anyletter.checks import is_within
from anyletter.edits import texts_behind
from anyletter.errors import BadBook
from anyletter.prices import Alone, Strange, price
from anyletter.texts import items_of


def is_row_of_two(book, row):
    """Whether it is a row of one word, some times, and then perhaps of another one, some times."""
    if not is_row(book, row) or len(row) == 0:
        return False
    return len([at for at in range(1, len(row)) if row[at] != row[at - 1]]) <= 1


def shows_strange(book, value):
    """Whether it is right that these edits make this word of this row."""
    if not is_row_of_two(book, value.row) or not is_within(value.made, 0, len(book.words) - 1):
        return False
    if value.made in value.row:
        return False
    texts = texts_behind(spelled(book, value.row, 1), value.edits)
    if texts is None or book.words[value.made] not in items_of(texts[-1]):
        return False
    return len(value.edits) == price(book)


def shows_price(book, value):
    """Whether it is a Strange of the price of the book, or Alone() for a book of one word."""
    if not isinstance(book, Book):
        raise BadBook("book")
    if isinstance(value, Alone) and value.__class__.__name__ == "Alone":
        return len(book.words) == 1
    if isinstance(value, Strange) and value.__class__.__name__ == "Strange":
        return shows_strange(book, value)
    return False
