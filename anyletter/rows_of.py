"""The rows and the texts of programs."""

from anyletter.books import spelled
from anyletter.building import joined_rooms
from anyletter.checks import is_within
from anyletter.courses import ADVANCE, OUTSET, UPLIFT
from anyletter.errors import BadNumber, BadProgram
from anyletter.ownrows import own_row
from anyletter.plain import plain_book
from anyletter.programs import Program
from anyletter.rooms import rooms

MOST_MANY = 3


def row_of(program):
    """The row of a program, a tuple: its own row if it has mine."""
    if not isinstance(program, Program):
        raise BadProgram("program")
    if program.mines > 0:
        return own_row(program)
    return tuple([OUTSET, UPLIFT, ADVANCE] + joined_rooms(rooms(program)))


def text_of(program, many):
    """The text of a program for many edits."""
    if not isinstance(program, Program):
        raise BadProgram("program")
    if not is_within(many, 0, MOST_MANY):
        raise BadNumber("many")
    return spelled(plain_book(), row_of(program), 2 * many + 1)
