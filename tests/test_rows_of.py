import random
import unittest

from anyletter.books import spelled
from anyletter.edits import damaged
from anyletter.ownrows import own_row
from anyletter.plain import plain_book
from anyletter.programs import Program
from anyletter.rows_of import row_of, text_of
from anyletter.runs import run_row, run_text
from anyletter.stands import begun, passed
from tests.programs_drawn import Drawing, slow_played
from tests.support import NO_INTEGERS, raised, slow_read, PLAIN
from tests.test_programs import NO_PROGRAMS
from tests.test_rooms import row_by_rooms
from tests.test_runs import drawn_damage

# The longest lines there are: each has three numbers of four digits to the base 8.
LONG = "keep 2925 2925 < 2925"
LONG_MINE = "keep 2925 mine 2925"
SUMS = Program(["hear n", "while n", "let s s + n", "let n n - 1", "end", "say s"])


class Rows(unittest.TestCase):
    def test_outset_and_the_rooms(self):
        drawn = random.Random(1501)
        for _ in range(100):
            program = Program(Drawing(drawn).lines(drawn.randint(0, 30)))
            self.assertEqual(row_of(program), tuple(row_by_rooms(program)))
            self.assertIsInstance(row_of(program), tuple)
        self.assertEqual(row_of(program=SUMS), row_of(SUMS))

    def test_at_most_12_lines_at_most_1200_words(self):
        names = ["n" + letter for letter in "abcdefghijklmnopqrst"]
        drawn = random.Random(1502)
        programs = [[LONG] * 12, ["if 2925", "else", "end"] * 4, ["while 2925", "end"] * 6, ["let z 2925 = 2925"] * 12]
        programs += [["keep {} {} < {}".format(*(names * 2)[place:place + 3]) for place in range(0, 24, 2)]]
        programs += [Drawing(drawn, names=names, numbers=(2925, 4095)).lines(12) for _ in range(100)]
        for lines in programs:
            self.assertLessEqual(len(row_of(Program(lines))), 1200, lines)
        self.assertLessEqual(len(row_of(Program([LONG] * 60))), 10000)

    def test_programs_with_mine(self):
        program = Program(["say mine 3"])
        self.assertEqual(row_of(program), own_row(program))
        self.assertEqual(raised(row_of, Program([LONG_MINE] + [LONG] * 59)), ("TooMany", "words", 10000))
        self.assertEqual(len(row_of(Program([LONG_MINE] * 3 + [LONG] * 9))) <= 10000, True)

    def test_errors(self):
        for value in NO_PROGRAMS:
            self.assertEqual(raised(row_of, value), ("BadProgram", "program"))


class Texts(unittest.TestCase):
    def test_so_many_copies(self):
        drawn = random.Random(1503)
        for lines in ([], ["say 7"], ["say mine 0"], Drawing(drawn).lines(9)):
            program = Program(lines)
            for many in ((0, 1) if program.mines else (0, 1, 2, 3)):
                self.assertEqual(text_of(program, many), spelled(plain_book(), row_of(program), 2 * many + 1))
                wanted = tuple(number for number in row_of(program) for _ in range(2 * many + 1))
                self.assertEqual(slow_read(PLAIN, text_of(many=many, program=program)), wanted)

    def test_damaged_anywhere_it_runs_as_the_row(self):
        drawn = random.Random(1504)
        for many in (1, 2, 3):
            for lines in (SUMS.lines, *[Drawing(drawn).lines(10) for _ in range(6)]):
                program = Program(lines)
                row, text = row_of(program), text_of(program, many)
                wanted = run_row(row, (3, 1), 24)
                for _ in range(15):
                    hurt = damaged(text, drawn_damage(drawn, text, many))
                    self.assertEqual(run_text(hurt, (3, 1), 24), wanted)

    def test_pass_by_pass(self):
        drawn = random.Random(1505)
        text = text_of(SUMS, 2)
        hurt = slow_read(PLAIN, damaged(text, drawn_damage(drawn, text, 2)))
        sound, bent = begun(), begun()
        for _ in range(6):
            sound, bent = passed(sound, row_of(SUMS), (4,)), passed(bent, hurt, (4,))
            self.assertEqual(sound, bent)

    def test_texts_that_are_too_long(self):
        lines = [LONG] * 60
        row = row_of(Program(lines))
        signs = sum(len(PLAIN[number]) + 1 for number in row)
        for many in (0, 1, 2, 3):
            if signs * (2 * many + 1) - 1 > 200000:
                self.assertEqual(raised(text_of, Program(lines), many), ("Misfit", "signs"))
            else:
                self.assertIsNone(raised(text_of, Program(lines), many))
        self.assertEqual(raised(text_of, Program([LONG_MINE] * 3 + [LONG] * 9), 3), ("Misfit", "signs"))
        self.assertEqual(raised(text_of, Program([LONG_MINE] + [LONG] * 59), 3), ("TooMany", "words", 10000))

    def test_errors_in_their_order(self):
        for value in NO_PROGRAMS:
            self.assertEqual(raised(text_of, value, None), ("BadProgram", "program"))
        for many in (-1, 4, 10**45, *NO_INTEGERS):
            self.assertEqual(raised(text_of, SUMS, many), ("BadNumber", "many"))
            self.assertEqual(raised(text_of, Program([LONG_MINE] + [LONG] * 59), many), ("BadNumber", "many"))

    def test_the_document_tells_a_run_of_15_steps(self):
        self.assertEqual(slow_played(SUMS.lines, [4], 99), ("done", (10,), 15))
