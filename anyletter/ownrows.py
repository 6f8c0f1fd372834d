"""Own rows: the rows of programs that ask for the words of the row that they become."""

from anyletter.books import MOST_NUMBERS
from anyletter.building import built_rooms, joined_rooms
from anyletter.errors import BadProgram, Misfit, TooMany
from anyletter.lookups import first_piece, framed, glue_size, listed
from anyletter.programs import Program


def own_row(program):
    """The row of a program with mine, a tuple."""
    if not isinstance(program, Program):
        raise BadProgram("program")
    if program.mines == 0:
        raise Misfit("mine")
    # The last piece tells how many words the glue has, and is as long whatever it tells.
    size = glue_size(len(joined_rooms(built_rooms(program, 0))))
    last_piece = joined_rooms(built_rooms(program, size))
    row = first_piece()
    for number in listed(last_piece):
        row.extend(framed(number))
    row.extend(last_piece)
    if len(row) > MOST_NUMBERS:
        raise TooMany("words", MOST_NUMBERS)
    return tuple(row)
