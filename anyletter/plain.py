"""The plain book: the thirty words of the fixed machine."""

from anyletter.books import MOST_NUMBERS, Book
from anyletter.checks import is_list, is_within

PLAIN_WORDS = (
    "outset", "uplift", "advance", "prepare", "augment", "lessen", "multiply", "portion", "exchange", "inquire",
    "proclaim", "obtain", "cipher", "single", "couple", "tripled", "quarter", "fivefold", "hexagon", "weekday",
    "nothing", "duplicate", "deposit", "whether", "negative", "granted", "otherwise", "anyway", "journey", "finish",
)


def plain_words():
    """The tuple of the thirty words, in the order of their numbers."""
    return PLAIN_WORDS


def plain_book():
    """The Book of the thirty words."""
    return Book(PLAIN_WORDS)


def is_plain_number(value):
    """Whether it is the number of one of the thirty words."""
    return is_within(value, 0, len(PLAIN_WORDS) - 1)


def is_plain_row(value):
    """Whether it is a list of at most 10,000 numbers of these words."""
    return is_list(value) and len(value) <= MOST_NUMBERS and all([is_plain_number(number) for number in value])
