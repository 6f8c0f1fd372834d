import itertools
import random
import unittest

from anyletter.lines import is_name, is_plain, line_of, parts_of
from tests.programs_drawn import Drawing
from tests.support import raised

WORDS = "hear say let keep while if else end stop at mine".split()
SIGNS = ["+", "-", "*", "/", "<", "="]
NO_STRINGS = [None, 0, 5, True, b"stop", ["stop"], ("stop",), {}, object()]
NO_PLAINS = [
    "4096", "9999", "01", "00", "007", "0000", "00000", "04095", "-1", "+1", "-0", "", " ", "1 ", " 1", "1.0", "1e3",
    "0x1", "1_0", "A", "aB", "a1", "1a", "a b", "a-b", "\u0661", "\u00b2", "\u00e9", "abcdefghi", "x" * 300000, "1" * 300000,
    *WORDS, *SIGNS,
]
# For each word what may stand behind it: N a name, P a plain, S a sign, A one of at and mine.
WORTHS = ["P", "PSP", "AP"]
SHAPES = {
    "hear": ["N"], "say": WORTHS, "let": ["N" + worth for worth in WORTHS], "keep": ["P" + worth for worth in WORTHS],
    "while": ["P"], "if": ["P"], "else": [""], "end": [""], "stop": [""],
}
NUMBERS = {str(number) for number in range(4096)}


def slow_is_name(item):
    return 1 <= len(item) <= 8 and set(item) <= set("abcdefghijklmnopqrstuvwxyz") and item not in WORDS


def slow_fits(kind, item):
    return {
        "N": slow_is_name(item), "P": slow_is_name(item) or item in NUMBERS, "S": item in SIGNS, "A": item in ("at", "mine"),
    }[kind]


def slow_fault(line):
    """The item at which a line fails, all shapes being gone through; None if it is one."""
    items = line.split(" ")
    if items[0] not in SHAPES:
        return 0
    furthest = 0
    for shape in SHAPES[items[0]]:
        fitting = 0
        while fitting < min(len(shape), len(items) - 1) and slow_fits(shape[fitting], items[fitting + 1]):
            fitting += 1
        if fitting == len(shape) == len(items) - 1:
            return None
        furthest = max(furthest, fitting)
    return furthest + 1


class Names(unittest.TestCase):
    def test_names(self):
        for value in ("a", "z", "hears", "abcdefgh", "zzzzzzzz", "q", "mines", "ends", "atat", "iff", "sa", "whil", "elsewhil"):
            self.assertIs(is_name(value), True, value)
        for letter in "abcdefghijklmnopqrstuvwxyz":
            self.assertIs(is_name(letter), True)
            self.assertIs(is_name(letter * 8), True)
            self.assertIs(is_name(letter * 9), False)
        self.assertIs(is_name(value="x"), True)

    def test_no_names(self):
        self.assertEqual(len(WORDS), 11)
        for value in (*WORDS, *NO_PLAINS, *NO_STRINGS, "0", "1", "4095", "ab\n", "\n", b"a", 1.0):
            self.assertIs(is_name(value), False, value)

    def test_plains(self):
        for number in range(4096):
            self.assertIs(is_plain(str(number)), True)
        for value in ("a", "hears", "abcdefgh"):
            self.assertIs(is_plain(value=value), True)
        for value in (*NO_PLAINS, *NO_STRINGS, *WORDS, 4095, 0, 1.0, *map(str, range(4096, 10100))):
            self.assertIs(is_plain(value), False, value)


class PartsOf(unittest.TestCase):
    def test_all_lines_of_few_items(self):
        items = ["hear", "say", "let", "keep", "while", "if", "else", "end", "stop", "at", "mine", "+", "<", "x", "0", "4096", ""]
        for length in (1, 2, 3):
            for line in map(" ".join, itertools.product(items, repeat=length)):
                self.check(line)

    def check(self, line):
        fault = slow_fault(line)
        wanted = None if fault is None else ("BadLine", 0, fault)
        self.assertEqual(raised(parts_of, line), wanted, line)
        if wanted is None:
            self.assertEqual(line_of(parts_of(line)), line)

    def test_drawn_lines(self):
        drawn = random.Random(1101)
        items = [*WORDS, *SIGNS, "x", "y", "abcdefgh", "abcdefghi", "0", "4095", "4096", "01", "", "", "A", "-1", "\t", "say\n"]
        right = 0
        for _ in range(6000):
            word = drawn.choice(WORDS)
            rest = drawn.choice(SHAPES.get(word, WORTHS))
            line = [word] + [{"N": "x", "P": drawn.choice(("y", "12")), "S": drawn.choice(SIGNS), "A": "at"}[kind] for kind in rest]
            for _ in range(drawn.randint(0, 2)):
                place = drawn.randint(0, len(line))
                line[place:place + drawn.randint(0, 1)] = drawn.choices(items, k=drawn.randint(0, 2))
            self.check(" ".join(line))
            right += slow_fault(" ".join(line)) is None
        self.assertGreater(right, 1000)

    def test_empty_items_at_the_front_in_the_midst_and_at_the_end(self):
        for line, fault in (
            ("", 0), (" ", 0), (" stop", 0), ("stop ", 1), ("stop  ", 1), ("say  x", 1), ("say ", 1), ("say x ", 2),
            ("say x  + y", 2), ("say x + ", 3), ("say x +  y", 3), ("say x + y ", 4), ("let  x 1", 1), ("let x  1", 2),
            ("keep 1 ", 2), ("keep  1 2", 1), ("hear", 1), ("hear ", 1), ("hear x ", 2), ("while ", 1), ("end ", 1),
        ):
            self.assertEqual(raised(parts_of, line), ("BadLine", 0, fault), line)

    def test_what_lacks_and_what_is_one_too_many(self):
        for line, fault in (
            ("say", 1), ("let", 1), ("let x", 2), ("keep", 1), ("keep x", 2), ("hear", 1), ("while", 1), ("if", 1),
            ("say at", 2), ("say mine", 2), ("let x at", 3), ("keep 1 mine", 3), ("say x +", 3), ("let x 1 <", 4),
            ("keep 1 2 =", 4), ("stop x", 1), ("end end", 1), ("else else", 1), ("while 1 1", 2), ("if x + y", 2),
            ("hear x y", 2), ("say 1 2", 2), ("say 1 + 2 + 3", 4), ("say at x + 1", 3), ("say at at x", 2), ("say mine mine", 2),
            ("keep at 1 2", 1), ("let 5 1", 1), ("hear 5", 1), ("say x at y", 2), ("while at 1", 1), ("Say x", 0), ("x", 0),
            ("at x", 0), ("mine 0", 0), ("say -1", 1), ("say 4096", 1), ("let at 1", 1), ("say + x", 1), ("say x + at", 3),
        ):
            self.assertEqual(raised(parts_of, line), ("BadLine", 0, fault), line)
            self.assertEqual(slow_fault(line), fault, line)

    def test_parts(self):
        for line, parts in (
            ("hear x", ("hear", "x")), ("say 0", ("say", ("plain", 0))), ("say zero", ("say", ("plain", "zero"))),
            ("say 4095 / x", ("say", ("/", 4095, "x"))), ("let a b = b", ("let", "a", ("=", "b", "b"))),
            ("keep a mine 7", ("keep", "a", ("mine", 7))), ("keep 7 7 * 7", ("keep", 7, ("*", 7, 7))),
            ("if 0", ("if", 0)), ("while plain", ("while", "plain")), ("else", ("else",)), ("stop", ("stop",)),
            ("say plain", ("say", ("plain", "plain"))), ("say a < 1", ("say", ("<", "a", 1))),
        ):
            # By their spelling True is not 1 and a list is no tuple.
            self.assertEqual(repr(parts_of(line=line)), repr(parts))

    def test_what_is_no_string(self):
        for value in NO_STRINGS:
            self.assertEqual(raised(parts_of, value), ("BadLine", 0, 0))


class LineOf(unittest.TestCase):
    def test_drawn_programs_there_and_back(self):
        drawn = random.Random(1102)
        for _ in range(100):
            for line in Drawing(drawn, mines=2).lines(20):
                parts = parts_of(line)
                self.assertEqual(line_of(parts), line)
                self.assertEqual(line_of(parts=[list(part) if isinstance(part, tuple) else part for part in parts]), line)

    def test_wrong_values(self):
        for value in (
            None, 0, 5, True, b"stop", {}, object(), "stop", "say x", [], (), ("stop", "x"), ("end", None), ("hear",), ("hear", 5), ("hear", "at"),
            ("hear", ["x"]), ("hear", "x", "y"), ("say", 5), ("say", "x"), ("say", ("plain", "5")), ("say", ("plain", 4096)),
            ("say", ("plain", -1)), ("say", ("plain", True)), ("say", ("plain", 1.0)), ("say", ("plain", None)),
            ("say", ("plain",)), ("say", ("plain", 1, 1)), ("say", ("at", 1, 2)), ("say", ("mine",)), ("say", ("+", 1)),
            ("say", ("+", 1, 2, 3)), ("say", ("+", 1, "2")), ("say", ("-", "x", "at")), ("say", ("+", (1,), 2)), ("say", ()),
            ("say", ("x", 1, 2)), ("say", (1, "+", 2)), ("say", (["at"], 1)), ("say", "at"), ("say", None), ("say", {"at": 1}),
            ("let", "x"), ("let", "x", 1), ("let", 1, ("plain", 1)), ("let", "say", ("plain", 1)), ("let", "x", ("plain", 1), 1),
            ("keep", "x"), ("keep", ("plain", 1), ("plain", 1)), ("keep", "1", ("plain", 1)), ("keep", 1, 1), ("while",),
            ("while", "1"), ("while", 4096), ("while", False), ("if", ("plain", 1)), ("if", 1, 2), ("at", 1), ("plain", 1),
            ("Stop",), (b"stop",), (["stop"],), ((),), (None,), (0,), [["stop"]], {"stop": 1}, {"stop"}, ("stop ",), ("",),
            ("while", "abcdefghi"), ("while", "a b"), ("hear", "x "), ("say", ("plain", "")), ("say", ("plain", 10**45)),
        ):
            self.assertEqual(raised(line_of, value), ("BadProgram", "parts"), value)

    def test_what_is_passed_stays(self):
        parts = ["let", "x", ["+", "x", 12]]
        self.assertEqual(line_of(parts), "let x x + 12")
        self.assertEqual(parts, ["let", "x", ["+", "x", 12]])
