import random
import time
import unittest

from anyletter.meaning import Played, left_by, played, traced
from anyletter.programs import Program
from tests.programs_drawn import Drawing, SlowRun, slow_played
from tests.support import NO_INTEGERS, NO_LISTS, raised
from tests.test_programs import NO_PROGRAMS
from tests.test_stands import NO_HEARD

FUNCTIONS = (played, traced, left_by)
NO_STEPS = [-1, 20001, 10**45, *NO_INTEGERS]
NO_OWN = [*NO_LISTS, [True], [1, None], ["1"], [[1]], [1.0], {1}, (0, False), [0] * 10001]


class Meaning(unittest.TestCase):
    def check(self, lines, heard, steps, own=()):
        program = Program(lines)
        run = SlowRun(lines, heard, own)
        outcome = "done" if run.go(steps) else "short"
        told = played(program, heard, steps, own)
        self.assertEqual(repr(told.parts), repr((outcome, tuple(run.said), len(run.trace))), (lines, heard, steps))
        self.assertEqual(repr(traced(program, heard, steps, own)), repr(tuple(run.trace)))
        self.assertEqual(repr(left_by(program, heard, steps, own)), repr(run.left(program.names)))
        return told

    def test_drawn_programs_against_the_slow_reckoning(self):
        drawn = random.Random(1301)
        outcomes = []
        for _ in range(800):
            lines = Drawing(drawn, mines=drawn.choice((0, 3))).lines(drawn.randint(0, 25))
            heard = [drawn.choice((0, 1, 2, 3, -1, -5, 10**40, -10**40)) for _ in range(drawn.randint(0, 5))]
            own = [drawn.randint(-9, 29) for _ in range(drawn.randint(0, 9))]
            told = self.check(lines, heard, drawn.randint(0, 60), own)
            outcomes.append((told.outcome, told.steps > 12))
        self.assertEqual(len(set(outcomes)), 4)

    def test_each_number_of_steps(self):
        drawn = random.Random(1302)
        for _ in range(60):
            lines = Drawing(drawn).lines(drawn.randint(0, 15))
            ahead = played(Program(lines), (2, 1), 0)
            for steps in range(30):
                told = self.check(lines, (2, 1), steps)
                # What is said in a number of steps stands at the beginning of what is said in more steps.
                self.assertEqual(told.said[:len(ahead.said)], ahead.said)
                if ahead.outcome == "done":
                    self.assertEqual(told, ahead)
                ahead = told

    def test_each_line(self):
        for lines, heard, said in (
            (["hear x", "say x", "hear x", "say x"], [5], (5, 0)), (["say x", "say 4095"], [], (0, 4095)),
            (["let x 3", "let y x * x", "say y - x"], [], (6,)), (["keep 3 7", "let i 3", "say at i", "say at 4"], [], (7, 0)),
            (["let i 0 - 9", "keep i 5", "say at i", "say at 9"], [], (5, 0)), (["while 0", "say 1", "end", "say 2"], [], (2,)),
            (["if 0", "say 1", "end", "say 2"], [], (2,)), (["if 5", "say 1", "else", "say 2", "end", "say 3"], [], (1, 3)),
            (["if x", "say 1", "else", "say 2", "end", "say 3"], [], (2, 3)), (["say 1", "stop", "say 2"], [], (1,)),
            (["hear x", "if x", "say x", "end"], [-1], (-1,)), (["hear x", "while x", "say x", "let x x + 1", "end"], [-2], (-2, -1)),
            (["if 1", "stop", "end", "say 1"], [], ()), (["if 1", "end", "if 0", "else", "end", "say 3"], [], (3,)),
        ):
            self.assertEqual(played(Program(lines), heard, 50).said, said, lines)

    def test_signs(self):
        for one in (-10**40, -7, -2, -1, 0, 1, 2, 7, 10**40):
            for other in (-10**40, -7, -2, -1, 0, 1, 2, 7, 10**40):
                lines = ["hear a", "hear b", *["say a {} b".format(sign) for sign in "+-*/<="]]
                wanted = (one + other, one - other, one * other, one // other if other else 0, int(one < other), int(one == other))
                self.assertEqual(repr(played(Program(lines), [one, other], 8).said), repr(wanted))

    def test_rounded_down(self):
        program = Program(["hear a", "hear b", "say a / b"])
        for one, other, wanted in ((7, 2, 3), (-7, 2, -4), (7, -2, -4), (-7, -2, 3), (5, 0, 0), (-5, 0, 0), (0, -5, 0), (-1, 5, -1)):
            self.assertEqual(played(program, [one, other], 3).said, (wanted,))

    def test_own_rows(self):
        program = Program(["hear i", "say mine i"])
        own = [5, -6, 10**45]
        for place, wanted in ((0, 5), (1, -6), (2, 10**45), (3, -1), (-1, -1), (-3, -1), (10**45, -1), (-10**45, -1)):
            self.assertEqual(played(program, [place], 2, own).said, (wanted,))
            self.assertEqual(played(program, [place], 2).said, (-1,))
        self.assertEqual(played(own=(4,), steps=9, heard=(), program=program).said, (4,))
        self.assertEqual(played(program, [9999], 2, [7] * 10000).said, (7,))

    def test_done_with_just_so_many_steps(self):
        for lines, steps in (
            (["say 1"], 1), (["stop"], 1), (["if 1", "say 1", "else", "say 2", "end"], 2), (["if 0", "else", "end"], 1),
            (["while x", "end"], 1), (["let x 1", "while x", "let x 0", "end"], 4), ([], 0), (["if 1", "if 1", "end", "end"], 2),
        ):
            program = Program(lines)
            for more in (0, 1, 20000 - steps):
                self.assertEqual(played(program, (), steps + more).parts[::2], ("done", steps), lines)
            if steps:
                self.assertEqual(played(program, (), steps - 1).parts[::2], ("short", steps - 1), lines)
                self.assertEqual(len(traced(program, (), steps - 1)), steps - 1)

    def test_most_steps(self):
        started = time.perf_counter()
        program = Program(["while 1", "let x x + 1", "keep x x", "say at x", "end"])
        told = played(program, (), 20000)
        self.assertEqual((told.outcome, told.steps, told.said), ("short", 20000, tuple(range(1, 5001))))
        self.assertEqual(left_by(program, (), 20000), ((5000,), tuple((place, place) for place in range(1, 5001))))
        self.assertEqual(traced(program, (), 20000), (0, 1, 2, 3) * 5000)
        self.assertLess(time.perf_counter() - started, 10)

    def test_what_is_left(self):
        program = Program(["let b 1", "keep 5 2", "keep a 3", "keep 5 0", "let d 0 - 1", "keep d d", "hear c"])
        self.assertEqual(left_by(program, [9], 20), ((1, 0, -1, 9), ((-1, -1), (0, 3))))
        self.assertEqual(left_by(program, [9], 2), ((1, 0, 0, 0), ((5, 2),)))
        self.assertEqual(left_by(program, [9], 0), ((0, 0, 0, 0), ()))
        self.assertEqual(left_by(Program([]), (), 0), ((), ()))

    def test_exchanging_names_changes_nothing_of_what_is_said(self):
        drawn = random.Random(1303)
        for _ in range(60):
            lines = Drawing(drawn).lines(15)
            table = dict(zip(("a", "b", "n"), ("n", "zzzzzzzz", "a")))
            other = [" ".join(table.get(item, item) for item in line.split(" ")) for line in lines]
            self.assertEqual(played(Program(lines), (3,), 40), played(Program(other), (3,), 40))

    def test_the_paper(self):
        told = played(Program(["say 1"]), [], 5)
        self.assertEqual((told.word, told.outcome, told.said, told.steps), ("played", "done", (1,), 1))
        self.assertEqual(told, Played("done", [1], 1))
        self.assertEqual(slow_played(["say 1"], [], 5), told.parts)

    def test_what_is_passed_stays(self):
        heard, own = [3, 4], [5]
        program = Program(["hear a", "hear b", "say mine 0"])
        for function in FUNCTIONS:
            self.assertEqual(function(program, heard, 9, own), function(program, tuple(heard), 9, tuple(own)))
        self.assertEqual((heard, own), ([3, 4], [5]))

    def test_errors_in_their_order(self):
        program = Program(["say 1"])
        for function in FUNCTIONS:
            for value in NO_PROGRAMS:
                self.assertEqual(raised(function, value, None, None, None), ("BadProgram", "program"))
                self.assertEqual(raised(function, heard=(), steps=1, program=value), ("BadProgram", "program"))
            for heard in NO_HEARD:
                self.assertEqual(raised(function, program, heard, -1, None), ("BadHeard", "heard"))
                self.assertEqual(raised(function, program, heard, 1), ("BadHeard", "heard"))
            for steps in NO_STEPS:
                self.assertEqual(raised(function, program, (), steps, None), ("BadNumber", "steps"))
                self.assertEqual(raised(function, program, (), steps), ("BadNumber", "steps"))
            for own in NO_OWN:
                self.assertEqual(raised(function, program, (), 0, own), ("BadRow", "own"))
                self.assertEqual(raised(function, program, heard=(), own=own, steps=20000), ("BadRow", "own"))
