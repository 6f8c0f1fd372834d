import random
import unittest

from anyletter.meaning import left_by, played
from anyletter.programs import Program
from anyletter.rooms import rooms
from anyletter.rows_of import row_of
from anyletter.runs import run_row
from anyletter.stands import begun, passed
from tests.programs_drawn import Drawing, slow_played
from tests.support import raised
from tests.test_programs import NO_PROGRAMS

# Enough of each kind for numbers of one digit to the base 8, of two and of three.
MANY_NAMES = ["n" + letter for letter in "abcdefghijklmnopqrst"]


def row_by_rooms(program):
    """The row of a program, by the words of [12]."""
    row = [0]
    for room in rooms(program):
        row += [1, 2, *room]
    return row


def stands_of(row, heard, passes):
    """The stand behind each pass, until the run is done."""
    stands = [begun()]
    while len(stands) <= passes and not stands[-1].is_done:
        stands.append(passed(stands[-1], row, heard))
    return stands[1:]


def cells_left(stand, program, is_free):
    """What the cells of names and places have, as left_by tells it; None if a cell that is not free has something else."""
    names, places = [0] * len(program.names), []
    for cell, number in stand.cells:
        if cell % 8 == 0:
            places.append((cell // 8, number))
        elif cell % 8 == 1 and 0 <= cell // 8 < len(names):
            names[cell // 8] = number
        elif not is_free(cell):
            return None
    return (tuple(names), tuple(places))


def free_in_rooms(cell):
    return cell % 8 == 2 and cell > 0


class Rooms(unittest.TestCase):
    def check(self, lines, heard, steps=40):
        """A run of the row against the run of the program, which is followed for some steps if it is not done sooner."""
        program = Program(lines)
        row = row_by_rooms(program)
        # In one pass each line is done once at most.
        far = slow_played(lines, heard, (2 * steps + 2) * len(lines))
        if far[0] == "done":
            steps = far[2]
        stands = stands_of(row, heard, 2 * steps + 2)
        self.assertEqual(stands[-1].is_done, far[0] == "done", (lines, heard))
        if far[0] == "done":
            self.assertEqual(stands[-1].said, far[1], (lines, heard))
            self.assertEqual(cells_left(stands[-1], program, free_in_rooms), left_by(program, heard, steps), (lines, heard))
        # What the row has said in some passes the program says in some steps.
        self.assertEqual(far[1][:len(stands[-1].said)], stands[-1].said, (lines, heard))
        # What the program says in some number of steps the row has said in twice as many passes and two more.
        for fewer in range(steps + 1):
            said = played(program, heard, fewer).said
            self.assertEqual(stands[min(2 * fewer + 2, len(stands)) - 1].said[:len(said)], said, (lines, heard))
        return far[0]

    def test_drawn_programs(self):
        drawn = random.Random(1401)
        outcomes = []
        for _ in range(600):
            lines = Drawing(drawn).lines(drawn.randint(4, 18))
            heard = [drawn.choice((0, 1, 2, 3, -1, -5, 10**39 + 1, -10**39)) for _ in range(drawn.randint(0, 5))]
            outcomes.append(self.check(lines, heard, drawn.randint(0, 40)))
        self.assertTrue(outcomes.count("done") > 200 and outcomes.count("short") > 20)

    def test_long_programs_with_many_names(self):
        drawn = random.Random(1402)
        for _ in range(25):
            drawing = Drawing(drawn, names=MANY_NAMES, numbers=(0, 1, 7, 8, 63, 64, 511, 512, 4095))
            self.check(drawing.lines(60), [drawn.randint(-9, 9) for _ in range(6)], 60)

    def test_signs_of_large_integers(self):
        lines = ["hear a", "hear b", *["say a {} b".format(sign) for sign in "+-*/<="]]
        row = row_of(Program(lines))
        values = (-10**40, -10**40 + 1, -8, -2, -1, 0, 1, 2, 8, 10**40, 10**40 + 1)
        for one in values:
            for other in values:
                wanted = (one + other, one - other, one * other, one // other if other else 0, int(one < other), int(one == other))
                self.assertEqual(run_row(row, (one, other), 18).parts[:2], ("finished", wanted))

    def test_plains_of_each_size(self):
        for number in (0, 1, 7, 8, 63, 64, 511, 512, 4094, 4095):
            lines = ["say {}".format(number), "keep {} {}".format(number, number), "say at {}".format(number), "if {}".format(number), "say 1", "end"]
            self.check(lines, ())

    def test_places_below_0_and_places_that_become_0(self):
        self.check(["let i 0 - 5", "keep i i", "say at i", "keep 3 4", "keep 3 0", "hear j", "keep j 1"], [-10**40])
        self.check(["hear j", "keep j j", "hear j", "keep j 7", "say at j"], [-1, 0])

    def test_folds(self):
        for lines in (
            ["while x", "end"], ["while 0", "say 1", "end"], ["if x", "end"], ["if x", "else", "end"], ["if 1", "else", "end"],
            ["while 1", "while 1", "stop", "end", "end"], ["if 1", "stop", "end"], ["if 1", "stop", "else", "end", "say 1"],
            ["while 1", "if 1", "stop", "else", "say 1", "end", "end"], ["stop", "while 1", "end"], ["stop", "say 1"],
            ["hear n", "while n", "hear m", "while m", "say m", "let m m - 1", "end", "let n n - 1", "end"],
            ["hear n", "while n", "if n", "say n", "else", "say 0", "end", "let n n - 1", "end", "say 9"],
            ["if 1", "if 0", "say 1", "else", "say 2", "end", "else", "if 1", "say 3", "end", "end"],
            ["if 0", "if 0", "say 1", "else", "say 2", "end", "else", "if 1", "say 3", "end", "end"],
            ["if 1"] * 6 + ["say 1"] + ["end"] * 6, ["while n"] * 6 + ["end"] * 6, ["say 1"] * 60,
            (["if 1", "else", "end"] * 20), (["while 0", "end"] * 30), ["let n 3"] + ["while n", "let n n - 1", "end"] * 2,
        ):
            for heard in ((), (2, 1, 3), (1, -1)):
                self.check(lines, heard, 30)

    def test_programs_that_never_are_done(self):
        for lines in (
            ["while 1", "end"], ["while 1", "say 7", "end"], ["while 1", "hear x", "say x", "end"], ["let n 1", "while n", "let n n + 1", "end"],
            ["while 1", "while 0", "end", "end"], ["while 1", "if 0", "else", "end", "say 3", "end"],
        ):
            self.assertEqual(self.check(lines, (5, -6), 25), "short")
            self.assertEqual(run_row(row_of(Program(lines)), (5, -6), 2000).outcome, "late")

    def test_no_lines(self):
        self.assertEqual(len(rooms(Program([]))), 1)
        self.assertEqual(self.check([], ()), "done")
        self.assertEqual(run_row(row_of(Program([])), (), 2).parts[:2], ("finished", ()))

    def test_the_words_of_rooms(self):
        drawn = random.Random(1403)
        for _ in range(100):
            program = Program(Drawing(drawn).lines(drawn.randint(0, 30)))
            told = rooms(program)
            self.assertIsInstance(told, tuple)
            self.assertTrue(told)
            for room in told:
                self.assertIsInstance(room, tuple)
                self.assertTrue(all(isinstance(number, int) and 3 <= number <= 29 for number in room))
            self.assertEqual(rooms(program=Program(list(program.lines))), told)

    def test_errors_in_their_order(self):
        for value in NO_PROGRAMS:
            self.assertEqual(raised(rooms, value), ("BadProgram", "program"))
        for lines in (["say mine 0"], ["let x mine x"], ["stop", "keep 1 mine 1"]):
            self.assertEqual(raised(rooms, Program(lines)), ("Misfit", "mine"))
