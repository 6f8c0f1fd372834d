"""Whether papers tell how many copies will do, and what parts damaged texts from sound ones."""

from anyletter.books import spelled
from anyletter.check_thick import is_short_row, text_behind
from anyletter.checks import are_integers, is_within
from anyletter.copies import (
    Copies, GoesRound, Parts, Stands, check_copies_for, check_text, copies_for, judged_text, leads_back,
)
from anyletter.lets import Differs, Lets, check_machine, judged_machine


def shows_round(machine, value):
    """Whether it is right that the deed of this word leads back to this start."""
    if not is_within(value.number, 0, len(machine.book.words) - 1):
        return False
    if not is_within(value.start, 0, machine.states - 1):
        return False
    return leads_back(machine.deeds[value.number], value.start)


def shows_copies(machine, many, value):
    """Whether it is the Copies that are the fewest, or a GoesRound of any word and start of which it is so."""
    check_copies_for(machine, many)
    if isinstance(value, Copies) and value.__class__.__name__ == "Copies":
        return are_integers(value.numbers) and copies_for(machine, many) == value
    if isinstance(value, GoesRound) and value.__class__.__name__ == "GoesRound":
        return shows_round(machine, value)
    return False


def texts_told(machine, copies, many, value):
    """The text of the row of a paper, and what its damage leaves; None if row, start or edits are none."""
    if not is_short_row(machine.book, value.row) or not is_within(value.start, 0, machine.states - 1):
        return None
    text = spelled(machine.book, value.row, copies)
    left = text_behind(text, value.edits, many)
    return None if left is None else (text, left)


def shows_text(machine, copies, many, value):
    """Whether it is Stands() where it is so, or a Parts of any row, start and damage with another end."""
    check_text(machine, copies, many)
    if isinstance(value, Stands) and value.__class__.__name__ == "Stands":
        return bool(judged_text(machine, copies, many))
    if isinstance(value, Parts) and value.__class__.__name__ == "Parts":
        told = texts_told(machine, copies, many, value)
        if told is None:
            return False
        return machine.done_text(told[1], value.start) != machine.done_text(told[0], value.start)
    return False


def shows_machine(machine, many, value):
    """Whether it is Lets() where it is so, or a Differs of any row, start and damage with another end."""
    check_machine(machine, many)
    if isinstance(value, Lets) and value.__class__.__name__ == "Lets":
        return bool(judged_machine(machine, many))
    if isinstance(value, Differs) and value.__class__.__name__ == "Differs":
        told = texts_told(machine, 2 * many + 1, many, value)
        if told is None:
            return False
        return machine.done_text(told[1], value.start) != machine.done(value.row, value.start)
    return False
