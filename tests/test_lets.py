import itertools
import random
import time
import unittest

from anyletter.books import Book
from anyletter.lets import Differs, Lets, Search, edits_of, judged_machine, steps_to
from anyletter.machines import Machine
from anyletter.papers import Denial
from anyletter.prices import price
from tests.support import NO_INTEGERS, PLAIN, raised, slow_read, slow_spelled, texts_left
from tests.test_books import FORTY
from tests.test_copies import chain, left_by
from tests.test_machines import NO_MACHINES, TINY, slow_end
from tests.test_makers import LETTERS, drawn_words
from tests.test_prices import any_books
from tests.test_settled import slow_settles
from tests.test_thick import all_rows


def drawn_once(drawn, states):
    """A deed for which twice is once."""
    ends = drawn.sample(range(states), drawn.randint(1, states))
    return [state if state in ends else drawn.choice(ends) for state in range(states)]


def is_differing(words, deeds, many, row, start, edits):
    """Whether a Differs of these is right by the words of the document; rows and starts are of the right kinds."""
    if not 1 <= len(row) <= 60 or len(edits) > many or not set(row) <= set(range(len(words))):
        return False
    if start not in range(len(deeds[0])):
        return False
    left = left_by(slow_spelled(words, row, [2 * many + 1] * len(words)), edits)
    if left is None:
        return False
    return slow_end(deeds, slow_read(words, left), start) != slow_end(deeds, row, start)


def lets_slowly(words, deeds, most, many):
    """Whether no row of at most so many words comes to another end, all damages gone through."""
    letters = "".join(sorted(set("".join(words)))) + "x "
    for row in all_rows(len(words), most)[1:]:
        for left in texts_left(slow_spelled(words, row, [2 * many + 1] * len(words)), letters, many):
            read = slow_read(words, left)
            for start in range(len(deeds[0])):
                if slow_end(deeds, read, start) != slow_end(deeds, row, start):
                    return False
    return True


def any_once(times, letters, most_words, most_letters, most_states, seed):
    """Pairs of words and deeds for which twice is once, some of them alike, drawn always alike."""
    drawn = random.Random(seed)
    for _ in range(times):
        words, many = [], drawn.randint(1, most_words)
        while len(words) < many:
            word = "".join(drawn.choice(letters) for _ in range(drawn.randint(1, most_letters)))
            words += [word] if word not in words else []
        states = drawn.randint(1, most_states)
        pool = [drawn_once(drawn, states) for _ in range(drawn.randint(1, 3))]
        yield words, [drawn.choice(pool) for _ in words]


class JudgedMachine(unittest.TestCase):
    def check_machine(self, words, deeds, many):
        told = judged_machine(Machine(Book(words), deeds), many)
        if told:
            self.assertEqual((told, told.word, told.parts), (Lets(), "lets", ()))
        else:
            self.assertIsInstance(told, Differs)
            self.assertEqual((told.word, told.parts), ("differs", (told.row, told.start, told.edits)))
            self.assertTrue(is_differing(words, deeds, many, told.row, told.start, told.edits), (words, told.parts))
        self.assertEqual(judged_machine(many=many, machine=Machine(Book(tuple(words)), tuple(deeds))), told)
        return told

    def test_small_machines_against_all_rows_of_one_and_two_words_behind_every_edit(self):
        seen = []
        for words, deeds in [*any_once(60, "ab", 4, 3, 3, 71), *any_once(30, "abc", 3, 3, 4, 72)]:
            told = self.check_machine(words, deeds, 1)
            self.assertIs(lets_slowly(words, deeds, 2, 1), bool(told), (words, deeds))
            seen.append((bool(told), len(words) > 1 and price(Book(words)) == 1))
        self.assertEqual(set(seen), {(True, True), (False, True), (True, False)})

    def test_rows_of_three_words_say_nothing_more(self):
        for words, deeds in any_once(20, "ab", 2, 3, 3, 73):
            self.assertIs(lets_slowly(words, deeds, 3, 1), bool(self.check_machine(words, deeds, 1)))

    def test_small_machines_against_all_damages_of_two_edits(self):
        seen = set()
        for words, deeds in any_once(30, "ab", 2, 1, 2, 74):
            told = self.check_machine(words, deeds, 2)
            self.assertIs(lets_slowly(words, deeds, 2, 2), bool(told), (words, deeds))
            seen.add(bool(told))
        self.assertEqual(seen, {True, False})

    def test_drawn_machines_that_differ(self):
        for words, deeds in [*any_once(80, "ab", 6, 5, 5, 75), *any_once(40, "abcdef", 6, 5, 5, 76)]:
            for many in (1, 2):
                self.check_machine(words, deeds, many)

    def test_more_edits_never_let_more(self):
        for words, deeds in any_once(60, "ab", 3, 4, 3, 77):
            told = [bool(self.check_machine(words, deeds, many)) for many in (1, 2, 3)]
            self.assertEqual(told, sorted(told, reverse=True))

    def test_a_word_that_only_two_unlike_words_make(self):
        words = ["abcdef", "uvwxyz", "abcdefuvwxyz"]
        for made, wanted in (([0, 1], True), ([0, 0], False)):
            deeds = [[0, 1], [0, 1], made]
            told = self.check_machine(words, deeds, 1)
            self.assertIs(bool(told), wanted)
            if not wanted:
                self.assertEqual(told.row, (0, 1))

    def test_a_word_that_is_made_is_harmless_ahead_or_behind(self):
        # What is made of abcd stands ahead of a copy, behind one, or between two.
        for deed, wanted in (([0, 0, 2], True), ([0, 1, 2], True), ([2, 2, 2], False), ([1, 1, 1], False)):
            told = self.check_machine(["abcd", "ab", "cd"], [[0, 0, 2], deed, [0, 0, 2]], 1)
            self.assertIs(bool(told), wanted, deed)

    def test_a_price_just_above_many_and_not_above(self):
        for many in (1, 2, 3):
            deeds = [[0, 0], [1, 1]]
            self.assertIs(bool(self.check_machine(["a" * (many + 1), "b" * (many + 1)], deeds, many)), True)
            self.assertIs(bool(self.check_machine(["a" * many, "b" * many], deeds, many)), False)

    def test_books_of_one_word(self):
        for deed in itertools.product(range(3), repeat=3):
            for many in (1, 2, 3):
                machine = Machine(Book(["a"]), [deed])
                if slow_settles(deed) == 1:
                    self.assertEqual(judged_machine(machine, many), Lets())
                else:
                    self.assertEqual(raised(judged_machine, machine, many), ("Misfit", "deeds"))

    def test_deeds_that_settle_late_or_never(self):
        for deeds in ([[0, 0], [1, 0]], [[1, 0], [0, 1]], [[1, 2, 2], [0, 0, 0]], [chain(40), [0] * 40]):
            for words in (["aa", "bb"], ["a", "b"], ["aaaaaaaa", "bbbbbbbb"]):
                for many in (1, 2, 3):
                    self.assertEqual(raised(judged_machine, Machine(Book(words), deeds), many), ("Misfit", "deeds"))

    def test_all_letters_behind_a_beginning_go_on_with_words(self):
        # No letter put ahead of a copy of a spoils it but by the next sign.
        words = list(LETTERS[:25]) + ["z" * 9]
        deeds = [[0, 1]] * 25 + [[0, 0]]
        self.assertIs(bool(self.check_machine(words, deeds, 1)), True)
        self.assertIs(bool(self.check_machine(list(LETTERS), [[0, 1]] * 25 + [[0, 0]], 1)), False)

    def check_search(self, words, deeds, text, many):
        search = Search(Machine(Book(words), deeds), many)
        starts = range(len(deeds[0]))
        wanted = set()
        for left in texts_left(text, "".join(sorted(set("".join(words)))) + "xy ", many):
            wanted.add(tuple(slow_end(deeds, slow_read(words, left), start) for start in starts))
        layers = search.layers_of(text)
        found = set()
        for point in layers[-1]:
            found.add(search.ends_behind(point[1], point[2]))
            edits = edits_of(steps_to(layers, point))
            self.assertEqual(len(edits), point[0])
            left = left_by(text, edits)
            self.assertIsNotNone(left, (words, text, edits))
            told = tuple(slow_end(deeds, slow_read(words, left), start) for start in starts)
            self.assertEqual(told, search.ends_behind(point[1], point[2]))
        self.assertEqual(found, wanted, (words, deeds, text))

    def test_the_search_comes_to_just_what_damages_come_to(self):
        drawn = random.Random(79)
        for words in any_books(60, "ab", 4, 3, 80):
            deeds = [[drawn.randrange(4) for _ in range(4)] for _ in words]
            text = "".join(drawn.choice("ab   ") for _ in range(drawn.randint(0, 4)))
            self.check_search(words, deeds, text, 2)
            for row in ([0], [1, 0]):
                self.check_search(words, deeds, slow_spelled(words, row, [2] * len(words)), 1)

    def test_the_search_spoils_a_copy_by_a_letter_alone(self):
        # What is left of a copy without a letter is a word, too.
        self.check_search(["a", "aa", "aaa"], [[1, 2, 2]] * 3, "aa", 1)
        self.check_search(["b", "bb", "bbb"], [[1, 2, 2], [2, 0, 1], [0, 0, 0]], "bb bb", 1)
        self.check_search(list(LETTERS), [[0, 1]] * 25 + [[1, 0]], "z", 1)

    def test_errors_in_their_order(self):
        for value in NO_MACHINES:
            self.assertEqual(raised(judged_machine, value, 0), ("BadMachine", "machine"))
            self.assertEqual(raised(judged_machine, many=1, machine=value), ("BadMachine", "machine"))
        for many in (0, 4, -1, 10**45, *NO_INTEGERS):
            for deeds in ([[1, 0], [0, 0]], [[0, 0], [0, 0]]):
                self.assertEqual(raised(judged_machine, Machine(TINY, deeds), many), ("BadNumber", "many"))

    def test_a_short_time(self):
        started = time.perf_counter()
        drawn = random.Random(78)
        for letters in ("ab", "abc", "a"):
            for _ in range(4):
                words = []
                while len(words) < (6 if letters != "a" else 5):
                    word = "".join(drawn.choice(letters) for _ in range(5 if letters != "a" else len(words) + 1))
                    words += [word] if word not in words else []
                deed = drawn_once(drawn, 5)
                self.assertEqual(judged_machine(Machine(Book(words), [deed] * len(words)), 2), Lets())
                judged_machine(Machine(Book(words), [drawn_once(drawn, 5) for _ in words]), 2)
        full = [drawn_once(drawn, 40) for _ in range(40)]
        self.assertEqual(judged_machine(Machine(Book(PLAIN), full[:30]), 3), Lets())
        self.assertEqual(judged_machine(Machine(Book(drawn_words(LETTERS, 40, 9, 7)), full), 3), Lets())
        self.assertIs(bool(judged_machine(Machine(Book(FORTY), full), 1)), False)
        # All of these calls together take some seconds.
        self.assertLess(time.perf_counter() - started, 60)

    def test_papers(self):
        self.assertEqual(Differs([0], 1, [["lost", 2]]), Differs(edits=(("lost", 2),), row=(0,), start=1))
        self.assertIsInstance(Differs(0, 0, 0), Denial)
        self.assertNotIsInstance(Lets(), Denial)
