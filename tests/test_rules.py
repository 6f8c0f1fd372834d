"""What the document promises over the whole program: the rules of [2], asked of each function of the interface."""

import copy
import importlib
import random
import unittest

from anyletter.books import Book
from anyletter.edits import damaged
from anyletter.healers import asker, healed, healer
from anyletter.machines import Machine
from anyletter.meaning import played
from anyletter.ownrows import own_row
from anyletter.papers import Paper
from anyletter.plain import plain_book
from anyletter.prices import price
from anyletter.programs import Program
from anyletter.rows_of import row_of, text_of
from anyletter.runs import run_row, run_text
from anyletter.stands import Stand, begun
from anyletter.thick import Thick, judged_book, reads_thickly
from anyletter.trials import parted_at, trial
from tests.programs_drawn import Drawing
from tests.support import PLAIN, slow_read
from tests.test_interface import CLASSES, FUNCTIONS
from tests.test_runs import drawn_damage

TALK = Book(["no", "thing", "nothing"])
COUNTER = Machine(Book(["aa", "bb"]), [[1, 2, 2], [0, 0, 0]])
LATCH = Machine(Book(["aa", "bb"]), [[1, 1], [0, 0]])
SUMS = Program(["hear n", "while n", "let s s + n", "let n n - 1", "end", "say s"])
TELLER = [0, 1, 2, 3, 9, 3, 10, 23, 25, 20, 3, 13, 28, 1, 2, 29]
ONE = "outset uplift advance prepare single prepare proclaim finish"
EDITS = [["lost", 0], ["put", 1, "x"]]
# For each function some arguments, in their order, with lists where lists may stand.
CALLS = {
    "is_integer": [[3], [[3]]], "is_within": [[3, None, 4]], "are_integers": [[[1, 2]], [[1, [2]]]], "is_word": [["ab"]],
    "is_sign": [["a"], [["a"]]], "is_text": [["a b"]], "fixed": [[[1, [2, [3]]]]], "items_of": [["ab  c"]], "begins_of": [["ab  c"]],
    "damaged": [["ab cd", EDITS]], "undone": [["ab cd", EDITS]], "untouched": [["ab cd", EDITS]],
    "least_edits": [["ab ab", "ba"]], "edits_between": [["ab ab", "ba"]], "around": [["a", "b", 2]],
    "shows_ways": [["ab", "b", Paper("ways", [["lost", 0]])], ["ab", "b", [["lost", 0]]]],
    "spelled": [[TALK, [0, 1], 2], [TALK, [0, 1], [1, 0, 2]]], "read": [[TALK, "no thing"]], "made_words": [[TALK, 1]],
    "price": [[TALK]], "price_of": [[TALK]], "shows_price": [[TALK, None]], "grown": [[["aa", "ab", "bb"], 2]],
    "reads_thickly": [[[0, 1], [0, 0, 1]]], "judged_book": [[TALK, 3, 1]], "shows_book": [[TALK, 3, 1, Thick(1)]],
    "torn": [["aa bb", 1, 2, "x"]], "touched_most": [[2, 3]], "copies_for_tear": [[Book(["aa", "bb"]), 1]],
    "settles": [[COUNTER, 0]], "copies_for": [[COUNTER, 1]], "judged_text": [[COUNTER, [4, 3], 1], [COUNTER, [3, 3], 1]],
    "judged_machine": [[LATCH, 2]], "shows_copies": [[COUNTER, 1, None]], "shows_text": [[COUNTER, [4, 3], 1, None]],
    "shows_machine": [[LATCH, 2, None]], "plain_words": [[]], "plain_book": [[]], "begun": [[]],
    "done_word": [[begun(), 1, [3]]], "passed": [[begun(), TELLER, [3, 0]]], "run_row": [[TELLER, [3, 0], 9]],
    "run_text": [[ONE, [3], 9]], "blocks_of": [[TELLER]], "is_name": [["n"]], "is_plain": [["12"]], "parts_of": [["let x x + 12"]],
    "line_of": [[["let", "x", ["+", "x", 12]]]], "played": [[SUMS, [4], 30], [SUMS, [4], 30, [1, 2]]],
    "traced": [[SUMS, [4], 30, [1]]], "left_by": [[SUMS, [4], 9, [1]]], "rooms": [[SUMS]], "row_of": [[SUMS], [asker()]],
    "text_of": [[SUMS, 1]], "own_row": [[asker()]], "asker": [[]], "healer": [[]],
    "healed": [[text_of(Program(["say 3"]), 1), 1, 9]], "trial": [[SUMS, 1, EDITS, [2], 30]],
    "breaking": [[SUMS, [2], 30]], "parted_at": [[ONE, ONE[:-7], [1], 3]], "marks_of": [["ab cd", EDITS]], "film_of": [[ONE, [1], 3]],
}


def tupled(value):
    """The value with tuples for lists, and lists for tuples, all the way in."""
    if isinstance(value, list):
        return tuple(tupled(part) for part in value)
    if isinstance(value, tuple):
        return [tupled(part) for part in value]
    return value


def plain_parts(value):
    """What a value tells, by lists, strings, numbers and truths."""
    if isinstance(value, Paper):
        return [type(value).__name__, value.word, plain_parts(value.parts)]
    if isinstance(value, (Book, Machine, Program, Stand)):
        return [type(value).__name__, sorted((name, repr(plain_parts(part))) for name, part in vars(value).items())]
    return [plain_parts(part) for part in value] if isinstance(value, (list, tuple)) else value


def holds_list(value):
    if isinstance(value, list):
        return True
    if isinstance(value, (Paper, Book, Machine, Program, Stand)):
        return any(map(holds_list, vars(value).values()))
    return isinstance(value, tuple) and any(map(holds_list, value))


def functions():
    for module, names in FUNCTIONS.items():
        for name, parameters in names.items():
            yield getattr(importlib.import_module("anyletter." + module), name), parameters


class Rules(unittest.TestCase):
    def test_each_function_is_called(self):
        self.assertEqual([function.__name__ for function, _ in functions()], list(CALLS))

    def calls(self):
        for function, parameters in functions():
            for arguments in CALLS[function.__name__]:
                yield function, parameters, arguments

    def test_by_place_and_by_name(self):
        for function, parameters, arguments in self.calls():
            by_name = dict(reversed(list(zip(parameters, arguments))))
            self.assertEqual(plain_parts(function(*arguments)), plain_parts(function(**by_name)), function.__name__)

    def test_lists_and_tuples_for_one_another(self):
        for function, _, arguments in self.calls():
            one, other = function(*arguments), function(*map(tupled, arguments))
            self.assertEqual(plain_parts(one), plain_parts(other), function.__name__)

    def test_equal_calls_return_equal_values(self):
        for function, _, arguments in self.calls():
            one, other = function(*arguments), function(*copy.deepcopy(arguments))
            self.assertIs(one == other, True, function.__name__)
            self.assertEqual(plain_parts(one), plain_parts(other), function.__name__)

    def test_what_is_passed_stays(self):
        for function, _, arguments in self.calls():
            ahead = copy.deepcopy(arguments)
            function(*arguments)
            self.assertEqual(repr(list(map(plain_parts, arguments))), repr(list(map(plain_parts, ahead))), function.__name__)

    def test_tuples_are_returned_and_stand_in_attributes(self):
        for function, _, arguments in self.calls():
            self.assertFalse(holds_list(function(*arguments)), function.__name__)

    def test_values_of_other_classes_are_unlike(self):
        for value in (TALK, COUNTER, SUMS, begun(), judged_book(TALK, 3, 1), run_row(TELLER, (), 1)):
            for other in (None, 0, "", (), vars(value), TALK, COUNTER, SUMS, begun(), Thick(1), played(SUMS, (), 1)):
                if type(other) is not type(value):
                    self.assertIs(value == other, False)
                    self.assertIs(value != other, True)

    def test_all_papers_fix_lists(self):
        for module, classes in CLASSES.items():
            for name, (_, parameters) in classes.items():
                made = getattr(importlib.import_module("anyletter." + module), name)
                if issubclass(made, Paper) and name not in ("Paper", "Denial"):
                    parts = [[1, [2, ([3],)], "x"] for _ in parameters]
                    self.assertFalse(holds_list(made(*parts)))
                    self.assertEqual(made(*parts), made(*map(tupled, parts)))


class Facts(unittest.TestCase):
    def test_the_plain_book(self):
        self.assertEqual(price(plain_book()), 4)
        for many in (1, 2, 3):
            self.assertEqual(judged_book(plain_book(), 2 * many + 1, many), Thick(4))
            self.assertFalse(judged_book(plain_book(), 2 * many, many))
        self.assertFalse(judged_book(plain_book(), 9, 4))

    def test_programs_damaged_anywhere(self):
        drawn = random.Random(2101)
        programs = [SUMS, Program([]), Program(["while 1", "hear x", "say x", "end"])]
        programs += [Program(Drawing(drawn).lines(10)) for _ in range(6)]
        for many in (1, 2, 3):
            for program in programs:
                text = text_of(program, many)
                for _ in range(6):
                    edits = drawn_damage(drawn, text, many)
                    hurt = damaged(text, edits)
                    # Each word is read one or more times.
                    self.assertTrue(reads_thickly(row_of(program), slow_read(PLAIN, hurt)))
                    told = trial(program, many, edits, (3, -1), 15)
                    self.assertEqual(told.sound, told.hurt)
                    # So the stand is the same behind any pass.
                    self.assertIsNone(parted_at(text, hurt, (3, -1), 15))

    def test_own_rows_damaged_anywhere(self):
        drawn = random.Random(2102)
        program = Program(["hear i", "say mine i", "hear i", "say mine i"])
        row, text = own_row(program), text_of(program, 1)
        for _ in range(10):
            heard = [drawn.randrange(len(row)), drawn.choice((-1, len(row), 10**40, 5))]
            wanted = played(program, heard, 9, row).said
            hurt = damaged(text, drawn_damage(drawn, text, 1))
            self.assertEqual(run_text(hurt, heard, 10).parts[:2], ("finished", wanted))
            self.assertIsNone(parted_at(text, hurt, heard, 10))

    def test_a_damaged_text_says_its_own_sound_text(self):
        drawn = random.Random(2103)
        text = text_of(healer(), 1)
        self.assertEqual(healed(damaged(text, drawn_damage(drawn, text, 1)), 1, 20000), text)
