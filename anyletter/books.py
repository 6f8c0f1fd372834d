"""Books of words, rows of their numbers, and the texts in which rows are spelled and read."""

from anyletter.checks import MOST_SIGNS, is_list, is_text, is_within, is_word
from anyletter.errors import BadBook, BadNumber, BadRow, BadText, BadWord, Misfit

MOST_WORDS = 40
MOST_NUMBERS = 10000
MOST_COPIES = 12


def are_words(value, most):
    """Whether it is a list of 1 to so many unlike words."""
    if not is_list(value) or not 1 <= len(value) <= most:
        return False
    return all([is_word(word) for word in value]) and len(set(value)) == len(value)


class Book:
    """A list of unlike words; the number of a word is its index."""

    def __init__(self, words):
        if not are_words(words, MOST_WORDS):
            raise BadBook("words")
        self.words = tuple(words)

    def __eq__(self, other):
        return isinstance(other, Book) and self.words == other.words

    def number(self, word):
        """The number of a word of the book."""
        if not is_word(word) or word not in self.words:
            raise BadWord("word")
        return self.words.index(word)


def is_row(book, value):
    """Whether it is a list of at most 10,000 numbers of words of the book."""
    if not is_list(value) or len(value) > MOST_NUMBERS:
        return False
    return all([is_within(number, 0, len(book.words) - 1) for number in value])


def copies_of_words(book, copies):
    """How many copies each word of the book has, in order; None if copies tells none."""
    counts = copies if is_list(copies) else [copies] * len(book.words)
    if len(counts) != len(book.words):
        return None
    if not all([is_within(count, 0, MOST_COPIES) for count in counts]):
        return None
    return counts


def spelled(book, row, copies):
    """The text of a row, each of its words so many times."""
    if not isinstance(book, Book):
        raise BadBook("book")
    if not is_row(book, row):
        raise BadRow("row")
    counts = copies_of_words(book, copies)
    if counts is None:
        raise BadNumber("copies")
    signs = sum([counts[number] * (len(book.words[number]) + 1) for number in row]) - 1
    if signs > MOST_SIGNS:
        raise Misfit("signs")
    items = []
    for number in row:
        items.extend([book.words[number]] * counts[number])
    return " ".join(items)


def read(book, text):
    """The numbers of those items of the text that are words of the book, in order, a tuple."""
    if not isinstance(book, Book):
        raise BadBook("book")
    if not is_text(text):
        raise BadText("text")
    numbers = {word: number for number, word in enumerate(book.words)}
    return tuple([numbers[item] for item in text.split(" ") if item in numbers])
