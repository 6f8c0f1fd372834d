import random
import unittest
import unittest.mock

from anyletter.books import Book
from anyletter.machines import Machine
from tests.support import NO_INTEGERS, NO_LISTS, NO_TEXTS, raised, slow_read
from tests.test_books import FORTY, NO_BOOKS

TINY = Book(["aa", "bb"])
NO_MACHINES = [None, 0, True, TINY, [[0]], "aa", Machine, object(), (TINY, ((0,), (0,)))]


def slow_end(deeds, row, start):
    return start if len(row) == 0 else slow_end(deeds, row[1:], deeds[row[0]][start])


def any_machines(times, most_words, most_states, seed):
    """Pairs of a list of words and deeds for them, drawn always alike."""
    drawn = random.Random(seed)
    for _ in range(times):
        words = drawn.sample(["aa", "bb", "ab", "b", "abb", "ba"], drawn.randint(1, most_words))
        states = drawn.randint(1, most_states)
        yield words, [[drawn.randrange(states) for _ in range(states)] for _ in words]


class Machines(unittest.TestCase):
    def test_attributes(self):
        for words, deeds in any_machines(30, 6, 6, 51):
            machine = Machine(Book(words), deeds)
            self.assertEqual(machine.book, Book(words))
            self.assertEqual(machine.deeds, tuple(map(tuple, deeds)))
            self.assertEqual(machine.states, len(deeds[0]))
            self.assertEqual({type(deed) for deed in machine.deeds}, {tuple})

    def test_machines_of_one_and_of_forty_states(self):
        self.assertEqual(Machine(TINY, [[0], [0]]).states, 1)
        forty = [[*range(1, 40), 0], [39] * 40]
        machine = Machine(TINY, forty)
        self.assertEqual((machine.states, machine.done([0] * 45, 0), machine.done([1], 3)), (40, 5, 39))
        self.assertEqual(raised(Machine, TINY, [[0] * 41, [0] * 41]), ("BadMachine", "deeds"))
        full = Machine(Book(FORTY), [list(range(40))] * 40)
        self.assertEqual(full.done(list(range(40)), 17), 17)

    def test_what_is_passed_is_copied(self):
        deeds = [[1, 0], [0, 0]]
        machine = Machine(TINY, deeds)
        deeds[0][0] = 0
        deeds.append([0, 0])
        self.assertEqual(machine.deeds, ((1, 0), (0, 0)))

    def test_ends_against_the_slow_reckoning(self):
        drawn = random.Random(52)
        for words, deeds in any_machines(40, 6, 6, 53):
            machine = Machine(Book(words), deeds)
            for start in range(machine.states):
                row = drawn.choices(range(len(words)), k=drawn.randint(0, 8))
                self.assertEqual(machine.done(row, start), slow_end(deeds, row, start))
                self.assertEqual(machine.done(tuple(row), start=start), slow_end(deeds, row, start))
                text = " ".join(drawn.choices(["aa", "bb", "ab", "b", "", "c", "aab"], k=drawn.randint(0, 8)))
                self.assertEqual(machine.done_text(text, start), slow_end(deeds, slow_read(words, text), start))
                self.assertEqual(machine.done_text(start=start, text=text), slow_end(deeds, slow_read(words, text), start))

    def test_rows_and_texts_at_their_bounds(self):
        machine = Machine(TINY, [[1, 2, 0], [0, 0, 0]])
        self.assertEqual([machine.done([], start) for start in range(3)], [0, 1, 2])
        self.assertEqual([machine.done_text("", start) for start in range(3)], [0, 1, 2])
        self.assertEqual(machine.done([0] * 10000, 0), 10000 % 3)
        self.assertEqual(machine.done_text(("aa " * 66667)[:200000], 0), 66667 % 3)
        self.assertEqual(raised(machine.done, [0] * 10001, 0), ("BadRow", "row"))
        self.assertEqual(raised(machine.done_text, "a" * 200001, 0), ("BadText", "text"))

    def test_equal_exactly_if_book_and_deeds_are(self):
        deeds = [[1, 0], [0, 0]]
        machine = Machine(TINY, deeds)
        self.assertIs(machine == Machine(Book(("aa", "bb")), ((1, 0), (0, 0))), True)
        self.assertIs(machine != Machine(TINY, deeds), False)
        for other in (
            Machine(Book(["aa", "cc"]), deeds), Machine(Book(["bb", "aa"]), deeds), Machine(TINY, [[1, 0], [0, 1]]),
            Machine(TINY, deeds[::-1]), Machine(TINY, [[0], [0]]), *NO_MACHINES, deeds, machine.deeds,
        ):
            self.assertIs(machine == other, False)
            self.assertIs(machine != other, True)

    def test_no_books(self):
        for book in NO_BOOKS:
            self.assertEqual(raised(Machine, book, [[0]]), ("BadBook", "book"))
            self.assertEqual(raised(Machine, deeds=None, book=book), ("BadBook", "book"))

    def test_no_deeds(self):
        for deeds in (
            *NO_LISTS, [], [[0]], [[0], [0], [0]], [[], []], [[0, 0], [0]], [[0], [0, 0]], [[0], [1]], [[-1], [0]],
            [[0, 2], [0, 0]], [[0, 1], [0, True]], [[False], [0]], [[0], None], [None, [0]], [["0"], [0]], ["0", "0"],
            [[0], [[0]]], [[0.0], [0]], [[10**45], [0]], [[0] * 41] * 2, [{0: 0}, [0]], [[0], {}], {0: [0], 1: [0]},
            [0, 0], [[0], [None]],
        ):
            self.assertEqual(raised(Machine, TINY, deeds), ("BadMachine", "deeds"), deeds)
            self.assertEqual(raised(Machine, deeds=deeds, book=TINY), ("BadMachine", "deeds"))

    def test_errors_of_done_in_their_order(self):
        machine = Machine(TINY, [[1, 0, 2], [0, 0, 0]])
        for row in (*NO_LISTS, [2], [-1], [True], [None], ["aa"], [[0]], [0, 1, 2], [0.0], {0}, [10**45]):
            for start in (0, 3, None):
                self.assertEqual(raised(machine.done, row, start), ("BadRow", "row"))
        for start in (3, -1, 10**45, *NO_INTEGERS):
            self.assertEqual(raised(machine.done, [], start), ("BadNumber", "start"))
            self.assertEqual(raised(machine.done, start=start, row=(0,)), ("BadNumber", "start"))
            self.assertEqual(raised(machine.done_text, "", start), ("BadNumber", "start"))
            for text in NO_TEXTS:
                self.assertEqual(raised(machine.done_text, text, start), ("BadText", "text"))
        self.assertEqual(raised(machine.done_text, "AA", 0), ("BadText", "text"))
