"""Trials: what damages do to runs."""

from anyletter.books import read, spelled
from anyletter.checks import is_text
from anyletter.courses import Course, do_pass
from anyletter.deeds import Work
from anyletter.edits import damaged
from anyletter.errors import BadProgram, BadText
from anyletter.papers import Paper
from anyletter.plain import plain_book, plain_words
from anyletter.programs import Program
from anyletter.rows_of import row_of, text_of
from anyletter.runs import check_run, run_of, run_text

# Two copies of each word are what one edit is enough for.
BREAKING_COPIES = 2


class Trial(Paper):
    """The Run of a sound text, and that of the text behind a damage."""

    def __init__(self, sound, hurt):
        super().__init__("trial", sound, hurt)
        self.sound, self.hurt = self.parts


def trial(program, many, edits, heard, passes):
    """The Trial of the text of a program for so many edits, and of these edits."""
    text = text_of(program, many)
    hurt = damaged(text, edits)
    return Trial(run_text(text, heard, passes), run_text(hurt, heard, passes))


def goes_otherwise(run, other):
    """Whether the outcome of two runs, or what they say, is unlike."""
    return run.outcome != other.outcome or run.said != other.said


def breaking(program, heard, passes):
    """The damage that is the first loss of a blank between two copies by which the run goes otherwise; None if none."""
    if not isinstance(program, Program):
        raise BadProgram("program")
    check_run(heard, passes)
    row = row_of(program)
    spelled(plain_book(), row, BREAKING_COPIES)
    sound = run_of(row, heard, passes)
    begin = 0
    for place, number in enumerate(row):
        length = len(plain_words()[number])
        # Both copies of the word are gone then; and of all others two do what one does.
        if goes_otherwise(sound, run_of(row[:place] + row[place + 1:], heard, passes)):
            return (("lost", begin + length),)
        begin += BREAKING_COPIES * (length + 1)
    return None


def stand_parts(work):
    """All that a stand has, as a tuple, but for what was said."""
    return (
        work.block, work.room, work.tick, work.flag, work.test, work.mode, work.first, work.second, work.cells,
        work.heard, work.is_done,
    )


def parted_at(text, other, heard, passes):
    """The first pass behind which two texts have unlike stands; None if there is none in so many passes."""
    if not is_text(text):
        raise BadText("text")
    if not is_text(other):
        raise BadText("other")
    check_run(heard, passes)
    work, course = Work(tuple(heard)), Course(read(plain_book(), text))
    other_work, other_course = Work(tuple(heard)), Course(read(plain_book(), other))
    for ahead in range(passes):
        said = len(work.said)
        do_pass(work, course)
        do_pass(other_work, other_course)
        # What was said ahead of this pass is the same, or they would have parted by then.
        if stand_parts(work) != stand_parts(other_work) or work.said[said:] != other_work.said[said:]:
            return ahead + 1
        if work.is_done:
            return None
    return None
