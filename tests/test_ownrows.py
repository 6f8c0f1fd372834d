import random
import time
import unittest

from anyletter.edits import damaged
from anyletter.meaning import left_by, played
from anyletter.ownrows import own_row
from anyletter.programs import Program
from anyletter.rows_of import row_of, text_of
from anyletter.runs import run_row, run_text
from tests.programs_drawn import Drawing, slow_played
from tests.support import raised
from tests.test_programs import NO_PROGRAMS
from tests.test_rooms import cells_left, stands_of
from tests.test_rows_of import LONG, LONG_MINE
from tests.test_runs import drawn_damage

ASKING = Program(["while 1", "hear i", "say mine i", "end"])


def free_in_own_rows(cell):
    return cell % 8 >= 2 and cell > 0


def answers(program, row, places):
    """What the row says if it is asked for words at these places; it hears them, and says one for each."""
    return run_row(row, places, min(20000, 2 * 3 * len(places) + 2)).said[:len(places)]


class OwnRows(unittest.TestCase):
    def check(self, lines, heard, steps=40):
        """A run of the own row against the run of the program with this very row."""
        program = Program(lines)
        row = own_row(program)
        # In one pass each line is done once at most.
        far = slow_played(lines, heard, (2 * steps + 2) * len(lines), row)
        if far[0] == "done":
            steps = far[2]
        stands = stands_of(row, heard, 2 * steps + 2)
        self.assertEqual(stands[-1].is_done, far[0] == "done", (lines, heard))
        if far[0] == "done":
            self.assertEqual(stands[-1].said, far[1], (lines, heard))
            self.assertEqual(cells_left(stands[-1], program, free_in_own_rows), left_by(program, heard, steps, row))
        self.assertEqual(far[1][:len(stands[-1].said)], stands[-1].said, (lines, heard))
        for fewer in range(steps + 1):
            said = played(program, heard, fewer, row).said
            self.assertEqual(stands[min(2 * fewer + 2, len(stands)) - 1].said[:len(said)], said, (lines, heard))
        return far[0]

    def test_each_place_of_a_row(self):
        row = own_row(ASKING)
        places = tuple(range(len(row)))
        self.assertEqual(answers(ASKING, row, places), row)

    def test_each_place_of_rows_of_all_kinds(self):
        drawn = random.Random(1601)
        for lines in ([], ["say mine 1", "say mine 2"], ["while 1", "let n mine n", "end"], [LONG] * 6, [LONG] * 6 + [LONG_MINE]):
            # The lines are never done, but stand in the row.
            program = Program(["while 1", "hear z", "say mine z", "if 0", *lines, "end", "end"])
            row = own_row(program)
            places = sorted(drawn.sample(range(len(row)), 600)) + [0, 1, 2, 11, 12, 13, len(row) - 1]
            self.assertEqual(answers(program, row, places), tuple(row[place] for place in places))

    def test_beyond_and_below_0(self):
        row = own_row(ASKING)
        places = (-1, -2, -3, -4, -5, -8, -12, -24, -100, -10**4, -10**40, *[len(row) + more for more in range(60)])
        places += (2 * len(row), 20000, 10**6, 10**40, 8**8, 64**4, 10**45)
        self.assertEqual(answers(ASKING, row, places), (-1,) * len(places))

    def test_lengths_of_all_remainders(self):
        # The last numbers of the list have one to four words.
        lengths = set()
        for number in (0, 1, 8, 64, 512):
            for lines in ([], ["hear x"], ["say 1"], ["let x at 1"]):
                program = Program([*lines, "say {}".format(number), "while 1", "hear i", "say mine i", "end"])
                row = own_row(program)
                lengths.add(len(row) % 4)
                places = tuple(range(len(row) - 30, len(row) + 8))
                said = run_row(row, (0,) * (lines == ["hear x"]) + places, 200).said
                said = said[1 + (lines == ["say 1"]):][:len(places)]
                self.assertEqual(said, row[-30:] + (-1,) * 8)
        self.assertEqual(len(lengths), 4)

    def test_drawn_programs_with_one_to_three_mines(self):
        drawn = random.Random(1602)
        found = {1: 0, 2: 0, 3: 0}
        while min(found.values()) < 12:
            lines = Drawing(drawn, mines=drawn.randint(1, 3), numbers=(0, 1, 2, 3, 12, 100, 2000, 4095)).lines(12)
            if Program(lines).mines and found[Program(lines).mines] < 12:
                found[Program(lines).mines] += 1
                heard = [drawn.choice((0, 1, 2, 7, 36, 1000, -1, -5, 10**39)) for _ in range(4)]
                self.check(lines, heard, 20)

    def test_mines_in_folds(self):
        for lines in (
            ["hear n", "while n", "say mine n", "let n n - 1", "end", "say mine n"],
            ["let x mine 0", "let y mine 1", "let z mine 2", "say x", "say y", "say z"],
            ["if mines", "say mine 1", "else", "say mine 2", "end", "keep mines mine 4"],
            ["while 1", "let x mine i", "if x", "let i mine x", "else", "keep i mine i", "end", "let i i + 1", "say i", "end"],
            ["keep 0 mine 12", "say at 0", "keep 0 0", "say mine 13"], ["stop", "say mine 0", "while 1", "say mine 0", "end"],
            ["say mine 5", "stop", "say 1"], ["while 0", "say mine 0", "end", "keep 1 mine 4095"], ["let a mine 1", "let a mine a", "let a mine a", "say a"],
        ):
            for heard in ((), (3, 9), (-1, 2)):
                self.check(lines, heard, 20)

    def test_a_program_that_goes_back_to_its_first_line(self):
        self.check(["while 1", "say mine n", "let n n + 1", "keep 0 n", "end"], (), 25)
        self.check(["while 1", "say at 0", "keep 0 mine 3", "end"], (), 25)

    def test_cells_are_as_they_should_be_behind_it(self):
        program = Program(["keep 0 5", "let i 0 - 3", "keep i mine 11", "let x mine i"])
        self.assertEqual(self.check(program.lines, ()), "done")
        stand = stands_of(own_row(program), (), 20)[-1]
        self.assertEqual([stand.cell(cell) for cell in (0, -24, 1, 9)], [5, own_row(program)[11], -3, -1])

    def test_at_most_12_lines_have_a_row_and_9_a_text(self):
        started = time.perf_counter()
        for mines in (1, 2, 3):
            lines = [LONG_MINE] * mines + [LONG] * 9
            self.assertLessEqual(len(own_row(Program(lines[:12]))), 10000)
            self.assertLessEqual(len(text_of(Program(lines[:9]), 1)), 200000)
        names = ["n" + letter for letter in "abcdefghijklmnopqrst"]
        drawn = random.Random(1603)
        for _ in range(60):
            lines = Drawing(drawn, names=names, mines=3, numbers=(2925, 4095)).lines(12)
            if Program(lines).mines:
                self.assertLessEqual(len(own_row(Program(lines))), 10000)
        self.assertLess(time.perf_counter() - started, 10)

    def test_too_many_words(self):
        self.assertEqual(raised(own_row, Program([LONG_MINE] + [LONG] * 59)), ("TooMany", "words", 10000))
        lengths = [
            len(own_row(Program([LONG_MINE] + [LONG] * many)))
            for many in range(60) if raised(own_row, Program([LONG_MINE] + [LONG] * many)) is None
        ]
        self.assertEqual(lengths, sorted(lengths))
        self.assertTrue(12 <= len(lengths) < 59 and lengths[-1] <= 10000)

    def test_10000_words_and_more(self):
        lengths = set()
        # Lines of 3 words and of 5: so the row grows word by word.
        for short in range(6):
            for shorter in range(20):
                lines = [LONG_MINE] + [LONG] * 17 + ["say 1"] * short + ["say 0"] * shorter
                error = raised(own_row, Program(lines))
                lengths.add(len(own_row(Program(lines))) if error is None else error)
        numbers = [length for length in lengths if isinstance(length, int)]
        self.assertEqual(max(numbers), 10000)
        self.assertEqual(lengths - set(numbers), {("TooMany", "words", 10000)})

    def test_a_text_damaged_anywhere_says_its_own_row(self):
        drawn = random.Random(1604)
        row, text = own_row(ASKING), text_of(ASKING, 1)
        places = drawn.sample(range(len(row)), 40)
        for _ in range(12):
            hurt = damaged(text, drawn_damage(drawn, text, 1))
            self.assertEqual(run_text(hurt, places, 60).said[:40], tuple(row[place] for place in places))

    def test_equal_calls(self):
        self.assertEqual(own_row(program=Program(list(ASKING.lines))), own_row(ASKING))
        self.assertEqual(row_of(ASKING), own_row(ASKING))
        self.assertIsInstance(own_row(ASKING), tuple)
        self.assertEqual(own_row(ASKING)[:3], (0, 1, 2))

    def test_errors_in_their_order(self):
        for value in NO_PROGRAMS:
            self.assertEqual(raised(own_row, value), ("BadProgram", "program"))
        for lines in ([], ["say 7", "stop"], ["say mines"], [LONG] * 60):
            self.assertEqual(raised(own_row, Program(lines)), ("Misfit", "mine"))
