"""The rooms of a program that does not ask for its own row."""

from anyletter.building import built_rooms
from anyletter.errors import BadProgram, Misfit
from anyletter.programs import Program


def rooms(program):
    """Right rooms of a program: a tuple of tuples of numbers of words."""
    if not isinstance(program, Program):
        raise BadProgram("program")
    if program.mines > 0:
        raise Misfit("mine")
    return tuple([tuple(words) for words in built_rooms(program, 0)])
