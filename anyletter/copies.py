"""How many copies make the end of a damaged text that of the sound one."""

from anyletter.books import MOST_COPIES
from anyletter.checks import is_list, is_within
from anyletter.errors import BadMachine, BadNumber, Misfit
from anyletter.machines import Machine
from anyletter.papers import Denial, Paper
from anyletter.prices import MOST_MAKING_EDITS, cost_of_words
from anyletter.settled import ends_of_times, times_to_settle
from anyletter.thick import copies_lost

MOST_TEXT_EDITS = 3


class Copies(Paper):
    """The fewest copies for each word of a book."""

    def __init__(self, numbers):
        super().__init__("copies", numbers)
        self.numbers = self.parts[0]


class Stands(Paper):
    """The end of the text is that of the sound text behind all damages."""

    def __init__(self):
        super().__init__("stands")


class GoesRound(Denial):
    """The number of a word whose deed goes round, and a start to which it leads back."""

    def __init__(self, number, start):
        super().__init__("goesround", number, start)
        self.number, self.start = self.parts


class Parts(Denial):
    """A row, a start and a damage behind which the end of the text is not that of the sound one."""

    def __init__(self, row, start, edits):
        super().__init__("parts", row, start, edits)
        self.row, self.start, self.edits = self.parts


def leads_back(deed, start):
    """Whether the deed leads back to the start if it is done some times, but not if it is done once."""
    state = deed[start]
    if state == start:
        return False
    for _ in range(len(deed)):
        state = deed[state]
        if state == start:
            return True
    return False


def check_copies_for(machine, many):
    """Raises what is wrong with a machine and edits for which copies are asked."""
    if not isinstance(machine, Machine):
        raise BadMachine("machine")
    if not is_within(many, 1, MOST_MAKING_EDITS):
        raise BadNumber("many")


def copies_for(machine, many):
    """The Copies that are the fewest for each word, or a GoesRound of a word for which none will do."""
    check_copies_for(machine, many)
    numbers = []
    for number, deed in enumerate(machine.deeds):
        times = times_to_settle(deed)
        if times is None:
            return GoesRound(number, [start for start in range(machine.states) if leads_back(deed, start)][0])
        numbers.append(2 * many + times)
    return Copies(numbers)


def check_text(machine, copies, many):
    """Raises what is wrong with a machine, copies and edits of which it is asked whether the text stands."""
    if not isinstance(machine, Machine):
        raise BadMachine("machine")
    if not is_list(copies) or len(copies) != len(machine.book.words):
        raise BadNumber("copies")
    if not all([is_within(count, 1, MOST_COPIES) for count in copies]):
        raise BadNumber("copies")
    if not is_within(many, 1, MOST_TEXT_EDITS):
        raise BadNumber("many")
    if min(copies) < 2 * many + 1:
        raise Misfit("copies")
    cost = cost_of_words(machine.book.words)
    if cost is not None and cost <= many:
        raise Misfit("price")


def start_and_gone(deed, copies, many):
    """(start, how many copies are gone) so that the others lead elsewhere, many edits making this; None if none do."""
    whole = ends_of_times(deed, copies)
    for gone in range(1, 2 * many + 1):
        left = ends_of_times(deed, copies - gone)
        for start in range(len(deed)):
            if left[start] != whole[start]:
                return (start, gone)
    return None


def judged_text(machine, copies, many):
    """Stands() if all damaged texts of rows end as the sound ones, otherwise a Parts."""
    check_text(machine, copies, many)
    for number, word in enumerate(machine.book.words):
        found = start_and_gone(machine.deeds[number], copies[number], many)
        if found is not None:
            return Parts([number], found[0], copies_lost(word, found[1]))
    return Stands()
