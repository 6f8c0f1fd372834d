"""When a deed settles: how often it is done until doing it once more changes nothing."""

from anyletter.checks import is_within
from anyletter.errors import BadMachine, BadNumber
from anyletter.machines import Machine


def ends_of_times(deed, times):
    """Where a deed leads from each state if it is done so many times, a tuple."""
    ends = list(range(len(deed)))
    for _ in range(times):
        ends = [deed[state] for state in ends]
    return tuple(ends)


def times_to_settle(deed):
    """The least number, 1 at least, at which a deed settles; None if it goes round."""
    ends = ends_of_times(deed, 1)
    # A way through the states meets one again behind as many steps as there are states: it settles by then, or never.
    for times in range(1, len(deed) + 1):
        further = tuple([deed[state] for state in ends])
        if further == ends:
            return times
        ends = further
    return None


def settles(machine, number):
    """The number at which the deed of the word with this number settles; None if it goes round."""
    if not isinstance(machine, Machine):
        raise BadMachine("machine")
    if not is_within(number, 0, len(machine.book.words) - 1):
        raise BadNumber("number")
    return times_to_settle(machine.deeds[number])
