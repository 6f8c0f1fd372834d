"""Tears, which exchange a stretch of a text for other signs."""

from anyletter.books import Book
from anyletter.checks import MOST_LETTERS, MOST_SIGNS, is_text, is_within
from anyletter.errors import BadBook, BadNumber, BadText, Misfit, TooMany
from anyletter.prices import price

MOST_STRETCH = 60
MOST_TEAR = 4


def torn(text, at, signs, other):
    """The text with so many signs from the place at on exchanged for other."""
    if not is_text(text):
        raise BadText("text")
    if not is_within(at, 0, len(text)):
        raise BadNumber("at")
    if not is_within(signs, 0, len(text) - at):
        raise BadNumber("signs")
    if not is_text(other):
        raise BadText("other")
    if len(text) - signs + len(other) > MOST_SIGNS:
        raise TooMany("signs", MOST_SIGNS)
    return text[:at] + other + text[at + signs:]


def touched_most(length, signs):
    """How many items a stretch of so many signs touches at most, the words being of this length."""
    if not is_within(length, 1, MOST_LETTERS):
        raise BadNumber("length")
    if not is_within(signs, 1, MOST_STRETCH):
        raise BadNumber("signs")
    # Most are touched if the stretch begins with a blank.
    return (signs - 1) // (length + 1) + 2


def copies_for_tear(book, signs):
    """How many copies are enough for one tear of so many signs exchanged for as many."""
    if not isinstance(book, Book):
        raise BadBook("book")
    if not is_within(signs, 1, MOST_TEAR):
        raise BadNumber("signs")
    length = len(book.words[0])
    if not all([len(word) == length for word in book.words]):
        raise Misfit("length")
    cost = price(book)
    if cost is not None and cost <= signs:
        raise Misfit("price")
    return touched_most(length, signs) + 1
