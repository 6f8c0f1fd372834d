import itertools
import random
import unittest
import unittest.mock

from anyletter.lines import parts_of
from anyletter.programs import Program
from tests.programs_drawn import Drawing
from tests.support import NO_INTEGERS, NO_LISTS, raised
from tests.test_lines import SHAPES, slow_fault, slow_is_name

NO_PROGRAMS = [None, 0, True, (), [], "stop", ["stop"], ("stop",), Program, object(), {}]


def slow_program_fault(lines):
    """(line, item) at which lines fail as a program; None if they do not."""
    names, mines, folds = [], 0, []
    for line, text in enumerate(lines):
        items = text.split(" ")
        form = slow_fault(text)
        for item, value in enumerate(items):
            if item == form:
                return (line, item)
            if item == 0:
                if value in ("while", "if"):
                    if len(folds) == 6:
                        return (line, 0)
                    folds.append(value)
                elif value == "else":
                    if folds[-1:] != ["if"]:
                        return (line, 0)
                    folds[-1] = "else"
                elif value == "end":
                    if not folds:
                        return (line, 0)
                    folds.pop()
            elif value == "mine":
                mines += 1
                if mines == 4:
                    return (line, item)
            elif slow_is_name(value) and value not in names:
                names.append(value)
                if len(names) == 21:
                    return (line, item)
        if form is not None:
            return (line, form)
    return (len(lines), 0) if folds else None


def slow_partners(lines):
    """The partners of a program, by counting how many folds are open."""
    words = [line.split(" ")[0] for line in lines]
    partners = [None] * len(lines)
    for line, word in enumerate(words):
        if word not in ("while", "if", "else"):
            continue
        depth = 1
        for behind in range(line + 1, len(lines)):
            depth += (words[behind] in ("while", "if")) - (words[behind] == "end")
            if depth == 0 or (depth == 1 and words[behind] == "else" and word == "if"):
                partners[line] = behind
                break
        end = partners[line]
        while words[end] == "else":
            end = slow_partners_end(words, end)
        if word != "else":
            partners[end] = line
    return tuple(partners)


def slow_partners_end(words, line):
    depth = 1
    while depth:
        line += 1
        depth += (words[line] in ("while", "if")) - (words[line] == "end")
    return line


class Programs(unittest.TestCase):
    def check(self, lines):
        fault = slow_program_fault(lines)
        wanted = None if fault is None else ("BadLine", *fault)
        self.assertEqual(raised(Program, lines), wanted, lines)
        return fault is None

    def test_drawn_programs(self):
        drawn = random.Random(1201)
        for _ in range(300):
            lines = Drawing(drawn, mines=3).lines(drawn.randint(0, 30))
            self.assertTrue(self.check(lines), lines)
            program = Program(lines)
            self.assertEqual(program.lines, tuple(lines))
            self.assertEqual(program.partners, slow_partners(lines), lines)
            names = [item for line in lines for item in line.split(" ")[1:] if slow_is_name(item)]
            self.assertEqual(program.names, tuple(dict.fromkeys(names)))
            self.assertEqual(program.mines, " ".join(lines).split(" ").count("mine"))
            for line in range(len(lines)):
                self.assertEqual(program.parts_at(line), parts_of(lines[line]))

    def test_drawn_lists_of_lines(self):
        drawn = random.Random(1202)
        spoilt = ["say x y", "let x", "stop ", "", "else", "end", "end", "while 0", "say mine 0", "say mine", "let q mine w"]
        right = 0
        for _ in range(3000):
            lines = Drawing(drawn, mines=3).lines(drawn.randint(0, 14))
            for _ in range(drawn.randint(0, 3)):
                place = drawn.randint(0, len(lines))
                lines[place:place + drawn.randint(0, 1)] = [drawn.choice(spoilt)] * drawn.randint(0, 1)
            right += self.check(lines)
        self.assertTrue(500 < right < 2500)

    def test_all_folds_of_few_lines(self):
        words = ["while x", "if x", "else", "end", "stop"]
        right = 0
        for length in range(6):
            for lines in itertools.product(words, repeat=length):
                right += self.check(lines)
                if slow_program_fault(lines) is None:
                    self.assertEqual(Program(lines).partners, slow_partners(lines))
        self.assertGreater(right, 40)

    def test_60_lines_and_61(self):
        self.assertEqual(len(Program(["stop"] * 60).lines), 60)
        self.assertEqual(raised(Program, ["stop"] * 61), ("BadProgram", "lines"))
        # How many there are is asked first.
        self.assertEqual(raised(Program, ["no line"] * 61), ("BadProgram", "lines"))
        self.assertEqual(raised(Program, ["no line"] * 60), ("BadLine", 0, 0))

    def test_6_folds_and_7(self):
        for words in itertools.product(("while 1", "if x"), repeat=6):
            lines = list(words) + ["stop"] + ["end"] * 6
            self.assertEqual(Program(lines).lines, tuple(lines))
            self.assertEqual(raised(Program, list(words) + ["if 1"] + ["end"] * 7), ("BadLine", 6, 0))
            # A line of no right form fails at its first item, too, ahead of others.
            self.assertEqual(raised(Program, list(words) + ["while 1 1"] + ["end"] * 7), ("BadLine", 6, 0))
        # Of folds that are closed there may be many, and an else opens none.
        self.assertEqual(len(Program((["while 1"] * 6 + ["end"] * 6) * 5).lines), 60)
        self.assertEqual(len(Program(["if 1"] * 5 + ["if 1", "else", "end", "if 1", "else", "end"] + ["end"] * 5).lines), 16)
        self.assertEqual(raised(Program, ["if 1"] * 6 + ["else", "while 1"]), ("BadLine", 7, 0))

    def test_20_names_and_21(self):
        names = ["n" + letter for letter in "abcdefghijklmnopqrst"]
        hears = ["hear " + name for name in names]
        self.assertEqual(Program(hears).names, tuple(names))
        self.assertEqual(Program(hears + ["say na + nb", "hear na", "say at nt"]).names, tuple(names))
        for line, item in (
            ("hear x", 1), ("say x", 1), ("say na + x", 3), ("say x + y", 1), ("say at x", 2), ("let x na", 1), ("let na x", 2),
            ("keep x x", 1), ("keep na na < x", 4), ("keep na mine x", 3), ("while x", 1), ("if x", 1), ("say x y", 1),
            ("say na x", 2), ("hear", 1), ("hear 5", 1), ("let x", 1), ("let na na + x +", 4), ("let na na + x", 4), ("keep x", 1),
            ("say na + nb x", 4), ("say na +", 3),
        ):
            self.assertEqual(raised(Program, hears + [line]), ("BadLine", 20, item), line)
        # Two names of one line may be the 20th and the 21st.
        self.assertEqual(raised(Program, hears[:19] + ["say x + y"]), ("BadLine", 19, 3))
        self.assertEqual(Program(hears[:19] + ["say x + x"]).names, (*names[:19], "x"))

    def test_3_mines_and_4(self):
        lines = ["say mine 0", "let x mine x", "keep mines mine 4095"]
        self.assertEqual(Program(lines).mines, 3)
        self.assertEqual(Program([]).mines, 0)
        for line, item in (("say mine 0", 1), ("let y mine 0", 2), ("keep 0 mine y", 2), ("say mine", 1), ("say mine at", 1), ("say mine 0 0", 1)):
            self.assertEqual(raised(Program, lines + [line]), ("BadLine", 3, item), line)
        self.assertEqual(raised(Program, lines + ["say x", "stop", "say mine x", "say mine x"]), ("BadLine", 5, 1))

    def test_a_name_and_a_mine_too_many_in_one_line(self):
        hears = ["hear n" + letter for letter in "abcdefghijklmnopqrst"] + ["say mine 0"] * 3
        self.assertEqual(raised(Program, hears + ["let x mine 0"]), ("BadLine", 23, 1))
        self.assertEqual(raised(Program, hears + ["let na mine x"]), ("BadLine", 23, 2))

    def test_folds_that_are_open_behind_the_last_line(self):
        for lines in (["while x"], ["if 1", "else"], ["if 1", "if 1", "end"], ["while 1"] * 6):
            self.assertEqual(raised(Program, lines), ("BadLine", len(lines), 0))
        # Lines that cannot stand come ahead of it.
        self.assertEqual(raised(Program, ["while x", "say"]), ("BadLine", 1, 1))

    def test_else_and_end(self):
        for lines, line in (
            (["else"], 0), (["end"], 0), (["while 1", "else", "end"], 1), (["if 1", "else", "else", "end"], 2),
            (["if 1", "end", "else"], 2), (["if 1", "while 1", "else", "end", "end"], 2), (["if 1", "end", "end"], 2),
            (["if 1", "else", "if 1", "else", "end", "else", "end"], 5),
        ):
            self.assertEqual(raised(Program, lines), ("BadLine", line, 0))
        lines = ["if 1", "if 1", "else", "end", "else", "while 1", "end", "end"]
        self.assertEqual(Program(lines).partners, (4, 2, 3, 1, 7, 6, 5, 0))

    def test_names_item_by_item(self):
        for lines, names in (
            (["keep b a", "say c < a", "if 1", "end"], ("b", "a", "c")), (["let z y / x", "hear w", "say at v"], tuple("zyxwv")),
            (["say mine q", "keep p at r"], ("q", "p", "r")), (["say 1", "stop"], ()), (["hear hears", "let lets hears"], ("hears", "lets")),
        ):
            self.assertEqual(Program(lines).names, names)

    def test_no_lines(self):
        for made in (Program([]), Program(lines=())):
            self.assertEqual((made.lines, made.names, made.mines, made.partners), ((), (), 0, ()))
            self.assertEqual(raised(made.parts_at, 0), ("BadNumber", "line"))

    def test_wrong_lines(self):
        for value in (*NO_LISTS, ["say 1", 5], [None], ["stop", None], [["stop"]], [b"stop"], (("stop",),), ["no line", 5], {"stop"}):
            self.assertEqual(raised(Program, value), ("BadProgram", "lines"))
            self.assertEqual(raised(Program, lines=value), ("BadProgram", "lines"))
        for word in SHAPES:
            self.assertEqual(raised(Program, ["stop", word + " x x x x x x"]), ("BadLine", 1, slow_program_fault(["stop", word + " x x x x x x"])[1]))

    def test_parts_at(self):
        program = Program(["say x", "stop"])
        self.assertEqual(repr(program.parts_at(line=0)), "('say', ('plain', 'x'))")
        for line in (-1, 2, 10**45, *NO_INTEGERS):
            self.assertEqual(raised(program.parts_at, line), ("BadNumber", "line"))

    def test_equal_exactly_if_the_lines_are(self):
        program = Program(["say x", "stop"])
        self.assertIs(program == Program(("say x", "stop")), True)
        self.assertIs(program != Program(("say x", "stop")), False)
        for other in (Program(["say x"]), Program(["say y", "stop"]), Program([]), Program(["stop", "say x"]), ("say x", "stop"), None, unittest.mock.ANY):
            self.assertIs(program == other, False)

    def test_what_is_passed_stays(self):
        lines = ["say x", "stop"]
        program = Program(lines)
        self.assertEqual(lines, ["say x", "stop"])
        lines.append("end")
        self.assertEqual((program.lines, program.partners), (("say x", "stop"), (None, None)))
