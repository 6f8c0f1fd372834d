import itertools
import unittest

from anyletter.books import Book
from anyletter.machines import Machine
from anyletter.settled import settles
from tests.support import NO_INTEGERS, raised
from tests.test_machines import NO_MACHINES, TINY, slow_end


def slow_settles(deed):
    """The least j, 1 at least, with which j times and j + 1 times lead to the same; 100 times are more than enough."""
    for times in range(1, 100):
        ends = [[slow_end([deed], [0] * many, state) for state in range(len(deed))] for many in (times, times + 1)]
        if ends[0] == ends[1]:
            return times
    return None


class Settles(unittest.TestCase):
    def test_all_small_deeds_against_the_slow_reckoning(self):
        seen = set()
        for states in (1, 2, 3, 4):
            for deed in itertools.product(range(states), repeat=states):
                wanted = slow_settles(deed)
                self.assertEqual(settles(Machine(Book(["a"]), [deed]), 0), wanted, deed)
                seen.add(wanted)
        self.assertEqual(seen, {None, 1, 2, 3})

    def test_at_once_late_never(self):
        for states in (2, 3, 5, 39, 40):
            late = [min(state + 1, states - 1) for state in range(states)]
            round_all = [(state + 1) % states for state in range(states)]
            round_late = [*range(1, states), states - 2]
            machine = Machine(Book(["a", "b", "c", "d", "e"]), [late, round_all, round_late, [0] * states, range_of(states)])
            self.assertEqual([settles(machine, number) for number in range(5)], [states - 1, None, None, 1, 1])

    def test_one_state(self):
        self.assertEqual(settles(number=1, machine=Machine(TINY, [[0], [0]])), 1)

    def test_errors_in_their_order(self):
        machine = Machine(TINY, [[1, 0], [0, 0]])
        for value in NO_MACHINES:
            self.assertEqual(raised(settles, value, 0), ("BadMachine", "machine"))
            self.assertEqual(raised(settles, number=9, machine=value), ("BadMachine", "machine"))
        for number in (-1, 2, 10**45, *NO_INTEGERS):
            self.assertEqual(raised(settles, machine, number), ("BadNumber", "number"))


def range_of(states):
    return list(range(states))
