"""Stands of the fixed machine, and what its words and rows make of them."""

from anyletter.checks import are_integers, is_integer, is_list, is_within
from anyletter.deeds import Work, do_row
from anyletter.errors import BadHeard, BadMachine, BadNumber, BadRow
from anyletter.plain import is_plain_number, is_plain_row


def is_truth(value):
    """Whether it is True or False."""
    return isinstance(value, bool)


def is_pair(value):
    """Whether it is a pair of integers, the second one not 0."""
    return are_integers(value) and len(value) == 2 and value[1] != 0


def are_cells(value):
    """Whether it is a list of pairs (cell, number) by rising cells, no number 0."""
    if not is_list(value) or not all([is_pair(pair) for pair in value]):
        return False
    return all([value[at][0] < value[at + 1][0] for at in range(len(value) - 1)])


def attributes_of(stand):
    """The attributes of a stand, in order."""
    return (
        stand.block, stand.room, stand.tick, stand.flag, stand.test, stand.mode, stand.first, stand.second, stand.cells,
        stand.heard, stand.said, stand.is_done,
    )


class Stand:
    """What the fixed machine has behind some words; it never changes."""

    def __init__(self, block, room, tick, flag, test, mode, first, second, cells, heard, said, is_done):
        for part, fits in (
            ("block", is_within(block, -1, None)), ("room", is_integer(room)), ("tick", is_truth(tick)),
            ("flag", is_truth(flag)), ("test", is_truth(test)), ("mode", is_within(mode, 0, 2)),
            ("first", is_integer(first)), ("second", is_integer(second)), ("cells", are_cells(cells)),
            ("heard", is_within(heard, 0, None)), ("said", are_integers(said)), ("is_done", is_truth(is_done)),
        ):
            if not fits:
                raise BadMachine(part)
        self.block = block
        self.room = room
        self.tick = tick
        self.flag = flag
        self.test = test
        self.mode = mode
        self.first = first
        self.second = second
        self.cells = tuple([tuple(pair) for pair in cells])
        self.heard = heard
        self.said = tuple(said)
        self.is_done = is_done

    def __eq__(self, other):
        return isinstance(other, Stand) and attributes_of(self) == attributes_of(other)

    def cell(self, place):
        """The number in a cell."""
        if not is_integer(place):
            raise BadNumber("place")
        for known, number in self.cells:
            if known == place:
                return number
        return 0


def stand_of(work):
    """The Stand that a work has come to."""
    return Stand(
        work.block, work.room, work.tick, work.flag, work.test, work.mode, work.first, work.second,
        sorted([(place, work.cells[place]) for place in work.cells]), work.heard, work.said, work.is_done,
    )


def work_from(stand, numbers):
    """The Work that begins at a stand, these numbers being all that can be heard."""
    work = Work(numbers)
    work.block = stand.block
    work.room = stand.room
    work.tick = stand.tick
    work.flag = stand.flag
    work.test = stand.test
    work.mode = stand.mode
    work.first = stand.first
    work.second = stand.second
    work.cells = {place: number for place, number in stand.cells}
    work.heard = stand.heard
    work.said = list(stand.said)
    work.is_done = stand.is_done
    return work


def begun():
    """The stand at first."""
    return stand_of(Work(()))


def behind_row(stand, row, numbers):
    """The Stand behind a row of words, each done once."""
    work = work_from(stand, numbers)
    do_row(work, row)
    return stand_of(work)


def done_word(stand, number, heard):
    """The Stand behind the deed of the word with this number."""
    if not isinstance(stand, Stand):
        raise BadMachine("stand")
    if not is_plain_number(number):
        raise BadNumber("number")
    if not are_integers(heard):
        raise BadHeard("heard")
    return behind_row(stand, (number,), heard)


def passed(stand, row, heard):
    """The Stand behind a pass of a row."""
    if not isinstance(stand, Stand):
        raise BadMachine("stand")
    if not is_plain_row(row):
        raise BadRow("row")
    if not are_integers(heard):
        raise BadHeard("heard")
    return behind_row(stand, row, heard)
