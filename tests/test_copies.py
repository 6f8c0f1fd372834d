import itertools
import random
import time
import unittest

from anyletter.books import Book
from anyletter.copies import Copies, GoesRound, Parts, Stands, copies_for, judged_text
from anyletter.machines import Machine
from anyletter.papers import Denial
from tests.support import NO_INTEGERS, NO_LISTS, PLAIN, raised, slow_left, slow_read, slow_spelled, texts_left
from tests.test_books import FORTY
from tests.test_machines import NO_MACHINES, TINY, slow_end
from tests.test_makers import LETTERS, drawn_words
from tests.test_settled import slow_settles
from tests.test_thick import all_rows, is_of_the_form


def slow_leads_back(deed, start):
    """Whether a deed done some times, 2 or more, but not once, leads back; 50 times are more than enough."""
    return deed[start] != start and start in [slow_end([deed], [0] * times, start) for times in range(2, 50)]


def left_by(text, edits):
    """The text behind the edits; None if they are no damage of it."""
    for edit in edits:
        text = slow_left(text, edit) if is_of_the_form(edit) else None
        if text is None:
            return None
    return text


def is_parting(words, deeds, copies, many, row, start, edits):
    """Whether a Parts of these is right by the words of the document; rows and starts are of the right kinds."""
    if not 1 <= len(row) <= 60 or len(edits) > many or not set(row) <= set(range(len(words))):
        return False
    if start not in range(len(deeds[0])):
        return False
    text = slow_spelled(words, row, copies)
    left = left_by(text, edits)
    if left is None:
        return False
    return slow_end(deeds, slow_read(words, left), start) != slow_end(deeds, slow_read(words, text), start)


def stands_slowly(words, deeds, copies, most, many):
    """Whether no row of at most so many words is parted, all damages gone through."""
    letters = "".join(sorted(set("".join(words)))) + "x "
    for row in all_rows(len(words), most)[1:]:
        text = slow_spelled(words, row, copies)
        reads = {slow_read(words, left) for left in texts_left(text, letters, many)} | {slow_read(words, text)}
        for start in range(len(deeds[0])):
            if len({slow_end(deeds, read, start) for read in reads}) > 1:
                return False
    return True


def drawn_deeds(drawn, words, states):
    return [[drawn.randrange(states) for _ in range(states)] for _ in range(words)]


def chain(states):
    """A deed that settles as late as can be."""
    return [min(state + 1, states - 1) for state in range(states)]


class CopiesFor(unittest.TestCase):
    def check_copies(self, deeds, many):
        machine = Machine(Book(FORTY[:len(deeds)]), deeds)
        told = copies_for(machine, many)
        numbers = [slow_settles(deed) for deed in deeds]
        if None in numbers:
            self.assertIsInstance(told, GoesRound)
            self.assertEqual((told.word, told.parts), ("goesround", (told.number, told.start)))
            self.assertTrue(slow_leads_back(deeds[told.number], told.start))
            self.assertIs(bool(told), False)
        else:
            self.assertEqual(told, Copies([2 * many + number for number in numbers]))
            self.assertEqual((told.word, told.parts), ("copies", (told.numbers,)))
            self.assertIs(bool(told), True)
        self.assertEqual(copies_for(many=many, machine=machine), told)

    def test_all_small_deeds(self):
        for states in (1, 2, 3):
            for deed in itertools.product(range(states), repeat=states):
                self.check_copies([deed], 1)

    def test_drawn_machines_with_all_numbers_of_edits(self):
        drawn = random.Random(61)
        for _ in range(150):
            deeds = drawn_deeds(drawn, drawn.randint(1, 4), drawn.randint(1, 4))
            for many in (1, 2, 3, 4):
                self.check_copies(deeds, many)

    def test_at_once_late_never(self):
        for states in (2, 3, 10, 40):
            late, full = chain(states), list(range(states))
            self.check_copies([late, full, [0] * states], 4)
            self.check_copies([late, full[1:] + [0]], 1)
            self.check_copies([full, full[1:] + [states - 2]], 2)
        self.assertEqual(copies_for(Machine(TINY, [chain(40), [0] * 40]), 4), Copies((47, 9)))

    def test_the_price_means_nothing(self):
        self.assertEqual(copies_for(Machine(Book(["a", "b"]), [[0, 0], [1, 1]]), 4), Copies([9, 9]))

    def test_so_many_copies_stand_and_one_fewer_does_not(self):
        drawn = random.Random(62)
        for _ in range(100):
            deeds = drawn_deeds(drawn, 2, drawn.randint(1, 4))
            machine = Machine(Book(["aaaa", "bbbb"]), deeds)
            for many in (1, 2, 3):
                told = copies_for(machine, many)
                if not told:
                    continue
                self.assertEqual(judged_text(machine, told.numbers, many), Stands())
                for number in (0, 1):
                    fewer = list(told.numbers)
                    fewer[number] -= 1
                    if fewer[number] > 2 * many:
                        self.assertIs(bool(judged_text(machine, fewer, many)), False)
                    else:
                        self.assertEqual(raised(judged_text, machine, fewer, many), ("Misfit", "copies"))

    def test_errors_in_their_order(self):
        machine = Machine(TINY, [[1, 0], [0, 0]])
        for value in NO_MACHINES:
            self.assertEqual(raised(copies_for, value, 0), ("BadMachine", "machine"))
            self.assertEqual(raised(copies_for, many=1, machine=value), ("BadMachine", "machine"))
        for many in (0, 5, -1, 10**45, *NO_INTEGERS):
            self.assertEqual(raised(copies_for, machine, many), ("BadNumber", "many"))


class JudgedText(unittest.TestCase):
    def check_text(self, words, deeds, copies, many):
        told = judged_text(Machine(Book(words), deeds), copies, many)
        wanted = True
        for deed, count in zip(deeds, copies):
            times = slow_settles(deed)
            wanted = wanted and times is not None and times <= count - 2 * many
        self.assertIs(bool(told), wanted, (words, deeds, copies, many))
        if wanted:
            self.assertEqual((told, told.word, told.parts), (Stands(), "stands", ()))
        else:
            self.assertIsInstance(told, Parts)
            self.assertEqual((told.word, told.parts), ("parts", (told.row, told.start, told.edits)))
            self.assertTrue(is_parting(words, deeds, copies, many, told.row, told.start, told.edits), told.parts)
        self.assertEqual(judged_text(many=many, copies=tuple(copies), machine=Machine(Book(words), deeds)), told)
        return told

    def test_small_machines_against_all_damages_of_rows_of_one_and_two_words(self):
        drawn = random.Random(63)
        seen = []
        for words in (["aa", "bb"], ["a"], ["ab", "cd"], ["abc"], ["aab", "bba"]):
            for _ in range(12):
                deeds = drawn_deeds(drawn, len(words), drawn.randint(1, 4))
                copies = [drawn.randint(3, 5) for _ in words]
                told = self.check_text(words, deeds, copies, 1)
                self.assertIs(stands_slowly(words, deeds, copies, 2, 1), bool(told), (words, deeds, copies))
                seen.append(bool(told))
        self.assertGreater(seen.count(True), 10)
        self.assertGreater(seen.count(False), 10)

    def test_small_machines_against_all_damages_of_two_edits(self):
        drawn = random.Random(64)
        for words in (["a"], ["aaa", "bbb"]):
            for _ in range(3):
                deeds = drawn_deeds(drawn, len(words), drawn.randint(2, 3))
                copies = [drawn.randint(5, 6) for _ in words]
                told = self.check_text(words, deeds, copies, 2)
                if told:
                    self.assertIs(stands_slowly(words, deeds, copies, 1, 2), True, (words, deeds, copies))

    def test_drawn_machines(self):
        drawn = random.Random(65)
        for _ in range(300):
            words = drawn.choice([["aaaa", "bbbb"], ["abcde"], ["a"], ["abcdef", "ghijkl", "mnopqr"]])
            deeds = drawn_deeds(drawn, len(words), drawn.randint(1, 5))
            many = drawn.randint(1, 3)
            self.check_text(words, deeds, [drawn.randint(2 * many + 1, 12) for _ in words], many)

    def test_only_an_odd_number_of_lost_copies_parts_a_switch(self):
        # Two copies fewer lead to the same.
        for copies in range(3, 13):
            for many in range(1, (copies - 1) // 2 + 1):
                if many <= 3:
                    self.assertIs(bool(self.check_text(["aaaa"], [[1, 0]], [copies], many)), False)

    def test_just_enough_copies_and_one_fewer(self):
        for many in (1, 2, 3):
            for states in range(2, 12 - 2 * many + 2):
                deeds = [chain(states), [0] * states]
                self.assertIs(bool(self.check_text(["aaaa", "bbbb"], deeds, [2 * many + states - 1, 12], many)), True)
                if states > 2:
                    self.assertIs(bool(self.check_text(["aaaa", "bbbb"], deeds, [2 * many + states - 2, 12], many)), False)
        self.assertIs(bool(self.check_text(["one"], [chain(40)], [12], 1)), False)

    def test_misfits_in_their_order(self):
        for many in (1, 2, 3):
            just, below = ["a" * (many + 1), "b" * (many + 1)], ["a" * many, "b" * many]
            deeds = [[0, 0], [1, 1]]
            self.check_text(just, deeds, [2 * many + 1, 12], many)
            for copies in ([2 * many, 12], [12, 2 * many], [1, 1]):
                for words in (just, below):
                    self.assertEqual(raised(judged_text, Machine(Book(words), deeds), copies, many), ("Misfit", "copies"))
            self.assertEqual(raised(judged_text, Machine(Book(below), deeds), [12, 12], many), ("Misfit", "price"))
            self.assertEqual(raised(judged_text, Machine(Book(["a"]), [[0]]), [2 * many], many), ("Misfit", "copies"))
            self.check_text(["a"], [[0]], [2 * many + 1], many)

    def test_errors_in_their_order(self):
        machine = Machine(TINY, [[1, 0], [0, 0]])
        for value in NO_MACHINES:
            self.assertEqual(raised(judged_text, value, None, 0), ("BadMachine", "machine"))
        for copies in (
            *NO_LISTS, [], [3], [3, 3, 3], [3, 0], [3, 13], [13, 3], [3, True], [3, None], [3, "3"], [3, -1], 3, [3.0, 3],
            [[3], [3]], {0: 3, 1: 3}, [3, 10**45],
        ):
            for many in (1, 0, None):
                self.assertEqual(raised(judged_text, machine, copies, many), ("BadNumber", "copies"), copies)
        for many in (0, 4, -1, 10**45, *NO_INTEGERS):
            for copies in ([1, 1], (12, 12)):
                self.assertEqual(raised(judged_text, machine, copies, many), ("BadNumber", "many"))

    def test_what_is_passed_stays(self):
        copies = [3, 3]
        judged_text(Machine(TINY, [[1, 0], [0, 0]]), copies, 1)
        self.assertEqual(copies, [3, 3])

    def test_full_books_in_a_short_time(self):
        started = time.perf_counter()
        identity, late = list(range(40)), chain(40)
        self.check_text(PLAIN, [identity] * 29 + [late], [7] * 30, 3)
        self.check_text(drawn_words(LETTERS, 40, 9, 7), [identity] * 39 + [late], [12] * 40, 3)
        self.assertLess(time.perf_counter() - started, 20)

    def test_papers(self):
        self.assertEqual(Parts([0], 1, [["lost", 2]]), Parts(edits=(("lost", 2),), row=(0,), start=1))
        self.assertNotEqual(Stands(), Copies([]))
        for told in (GoesRound(0, 0), Parts(0, 0, 0)):
            self.assertIsInstance(told, Denial)
