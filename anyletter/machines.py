"""Machines, whose words are deeds that lead from state to state."""

from anyletter.books import Book, is_row, read
from anyletter.checks import is_list, is_text, is_within
from anyletter.errors import BadBook, BadMachine, BadNumber, BadRow, BadText

MOST_STATES = 40


def are_deeds(value, words):
    """Whether it is a list of so many deeds, all for as many states, 1 to 40."""
    if not is_list(value) or len(value) != words:
        return False
    if not all([is_list(deed) and 1 <= len(deed) <= MOST_STATES for deed in value]):
        return False
    states = len(value[0])
    for deed in value:
        if len(deed) != states or not all([is_within(state, 0, states - 1) for state in deed]):
            return False
    return True


def end_of_row(deeds, row, start):
    """Where the deeds of the words of a row lead from a start, one behind another."""
    state = start
    for number in row:
        state = deeds[number][state]
    return state


class Machine:
    """A book, and a deed for each of its words."""

    def __init__(self, book, deeds):
        if not isinstance(book, Book):
            raise BadBook("book")
        if not are_deeds(deeds, len(book.words)):
            raise BadMachine("deeds")
        self.book = book
        self.deeds = tuple([tuple(deed) for deed in deeds])
        self.states = len(self.deeds[0])

    def __eq__(self, other):
        return isinstance(other, Machine) and self.book == other.book and self.deeds == other.deeds

    def done(self, row, start):
        """The end of a row."""
        if not is_row(self.book, row):
            raise BadRow("row")
        if not is_within(start, 0, self.states - 1):
            raise BadNumber("start")
        return end_of_row(self.deeds, row, start)

    def done_text(self, text, start):
        """The end of the row that is read of a text."""
        if not is_text(text):
            raise BadText("text")
        if not is_within(start, 0, self.states - 1):
            raise BadNumber("start")
        return end_of_row(self.deeds, read(self.book, text), start)
