"""Runs of the fixed machine: passes by one row, until it is done."""

from anyletter.books import read
from anyletter.checks import are_integers, is_text, is_within
from anyletter.courses import Course, behind_words, do_pass
from anyletter.deeds import Work
from anyletter.errors import BadHeard, BadNumber, BadRow, BadText
from anyletter.papers import Paper
from anyletter.plain import is_plain_row, plain_book

MOST_PASSES = 20000


class Run(Paper):
    """Whether a run was finished, what was said, and in which pass, or behind how many."""

    def __init__(self, outcome, said, passes):
        super().__init__("run", outcome, said, passes)
        self.outcome, self.said, self.passes = self.parts


def check_run(heard, passes):
    """Raises what is wrong with numbers that are heard, and with a number of passes."""
    if not are_integers(heard):
        raise BadHeard("heard")
    if not is_within(passes, 1, MOST_PASSES):
        raise BadNumber("passes")


def run_of(row, heard, passes):
    """The Run of a row of at most so many passes."""
    work = Work(tuple(heard))
    course = Course(row)
    for ahead in range(passes):
        do_pass(work, course)
        if work.is_done:
            return Run("finished", work.said, ahead + 1)
    return Run("late", work.said, passes)


def run_row(row, heard, passes):
    """The Run of a row with these numbers heard."""
    if not is_plain_row(row):
        raise BadRow("row")
    check_run(heard, passes)
    return run_of(row, heard, passes)


def run_text(text, heard, passes):
    """The Run of the row that the plain book reads in a text."""
    if not is_text(text):
        raise BadText("text")
    check_run(heard, passes)
    return run_of(read(plain_book(), text), heard, passes)


def blocks_of(row):
    """The block behind each word of a row from the first stand on, each finish left out, a tuple."""
    if not is_plain_row(row):
        raise BadRow("row")
    return tuple([block for block, _ in behind_words(row)])
