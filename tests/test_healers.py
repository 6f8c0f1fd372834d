import random
import time
import unittest

from anyletter.books import spelled
from anyletter.edits import damaged
from anyletter.healers import asker, healed, healer
from anyletter.meaning import played
from anyletter.ownrows import own_row
from anyletter.plain import plain_book
from anyletter.programs import Program
from anyletter.rows_of import row_of, text_of
from anyletter.runs import run_row, run_text
from tests.support import NO_INTEGERS, NO_TEXTS, raised
from tests.test_runs import NO_PASSES, drawn_damage


def saying(numbers):
    """A program that says these numbers."""
    return Program(["say {}".format(number) for number in numbers])


class Askers(unittest.TestCase):
    def test_it_says_what_stands_there(self):
        own = [5, 0, 29, 7]
        for heard, said in (
            ([-1], ()), ([0, 1, 2, 3, -1], (5, 0, 29, 7)), ([3, 3, 0, -10**40], (7, 7, 5)), ([4, 10**40, 1, -1, 2], (-1, -1, 0)),
        ):
            told = played(asker(), heard, 6 * len(said) + 5, own)
            self.assertEqual((told.outcome, told.said), ("done", said))

    def test_steps(self):
        for count in (0, 1, 2, 10, 100, 1000):
            told = played(asker(), [0] * count + [-1], 20000, [9])
            self.assertEqual((told.outcome, told.said), ("done", (9,) * count))
            self.assertLessEqual(told.steps, 6 * count + 5)
        # Numbers that are no more heard are 0: so it goes on.
        self.assertEqual(played(asker(), [], 900, [4]).outcome, "short")

    def test_its_row_says_itself(self):
        row = own_row(asker())
        told = run_row(row, [*range(len(row)), len(row), -1], 20000)
        self.assertEqual(told.parts[:2], ("finished", row + (-1,)))

    def test_it_is_a_program_with_mine(self):
        for made in (asker(), healer()):
            self.assertIsInstance(made, Program)
            self.assertTrue(1 <= made.mines <= 3)
            self.assertLessEqual(len(text_of(made, 1)), 200000)
        self.assertEqual((asker(), healer()), (asker(), healer()))


class Healers(unittest.TestCase):
    def test_it_says_any_own_row(self):
        drawn = random.Random(1701)
        rows = [[], [0], [0, 0], [29, 1], [5] * 100, [drawn.randrange(30) for _ in range(300)], [10**45, 0, 8**20]]
        for own in rows:
            told = played(healer(), [], 10 * len(own) + 10, own)
            self.assertEqual((told.outcome, told.said), ("done", tuple(own)))
            self.assertEqual(played(healer(), [3, -1], 10 * len(own) + 10, own).said, tuple(own))

    def test_its_row_says_itself(self):
        row = own_row(healer())
        self.assertEqual(run_row(row, (), 20000).parts[:2], ("finished", row))

    def test_a_damaged_text_of_it_says_its_sound_text(self):
        started = time.perf_counter()
        drawn = random.Random(1702)
        text = text_of(healer(), 1)
        for _ in range(2):
            hurt = damaged(text, drawn_damage(drawn, text, 1))
            self.assertNotEqual(hurt, text)
            self.assertEqual(healed(hurt, 1, 20000), text)
        self.assertEqual(healed(text, 0, 20000), text_of(healer(), 0))
        self.assertLess(time.perf_counter() - started, 60)


class Healed(unittest.TestCase):
    def test_what_is_said_is_spelled(self):
        for numbers in ([], [0], [29], [0, 1, 2, 20, 29], [7] * 30, list(range(30))):
            for many in (0, 1, 2, 3):
                for copies in (0, 1, 2, 3):
                    text = text_of(saying(numbers), copies)
                    self.assertEqual(healed(text, many, 9), spelled(plain_book(), numbers, 2 * many + 1))
        self.assertEqual(healed(passes=9, many=0, text=text_of(saying([3]), 1)), "prepare")

    def test_damaged_texts(self):
        drawn = random.Random(1703)
        for many in (1, 2, 3):
            text = text_of(saying([4, 5, 6]), many)
            for _ in range(20):
                hurt = damaged(text, drawn_damage(drawn, text, many))
                self.assertEqual(healed(hurt, many, 9), spelled(plain_book(), [4, 5, 6], 2 * many + 1))

    def test_late(self):
        text = text_of(Program(["say 1", "while 1", "end"]), 1)
        self.assertEqual(raised(healed, text, 1, 20000), ("Misfit", "text"))
        self.assertEqual(raised(healed, "", 0, 1), ("Misfit", "text"))
        # It is done in its third pass.
        slow = Program(["let n 2", "while n", "say n", "let n n - 1", "end"])
        passes = run_row(row_of(slow), (), 90).passes
        self.assertGreater(passes, 1)
        self.assertEqual(healed(text_of(slow, 0), 0, passes), "advance uplift")
        self.assertEqual(raised(healed, text_of(slow, 0), 0, passes - 1), ("Misfit", "text"))

    def test_what_is_no_row(self):
        for lines in (["say 30"], ["say 1", "say 31", "say 2"], ["let x 0 - 1", "say x"], ["say 4095 * 4095"]):
            self.assertEqual(raised(healed, text_of(Program(lines), 1), 1, 9), ("Misfit", "text"))
        # Nothing is heard.
        self.assertEqual(healed(text_of(Program(["hear x", "say x"]), 1), 0, 9), "outset")

    def test_rows_of_10000_words_and_more(self):
        # 10,000 times a word is said, or once more; the row has few words.
        for extra, wanted in ((0, None), (1, ("Misfit", "text"))):
            program = Program(["let n 2500", "let n n * 4", "let n n + {}".format(extra), "while n", "say 20", "let n n - 1", "end"])
            text = text_of(program, 0)
            self.assertEqual(raised(healed, text, 0, 20000), wanted)
            # A text of three copies would have more than 200,000 signs.
            self.assertEqual(raised(healed, text, 1, 20000), wanted or ("Misfit", "signs"))

    def test_errors_in_their_order(self):
        for text in NO_TEXTS:
            self.assertEqual(raised(healed, text, None, None), ("BadText", "text"))
        for many in (-1, 4, 10**45, *NO_INTEGERS):
            self.assertEqual(raised(healed, "", many, None), ("BadNumber", "many"))
            self.assertEqual(raised(healed, "", many, 1), ("BadNumber", "many"))
        for passes in NO_PASSES:
            self.assertEqual(raised(healed, "", 0, passes), ("BadNumber", "passes"))
        self.assertEqual(run_text("", (), 1).outcome, "late")
