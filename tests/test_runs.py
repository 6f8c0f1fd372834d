import itertools
import random
import time
import unittest

from anyletter.books import spelled
from anyletter.edits import damaged
from anyletter.plain import plain_book
from anyletter.runs import Run, blocks_of, run_row, run_text
from anyletter.stands import begun, passed
from tests.support import NO_INTEGERS, NO_LISTS, NO_TEXTS, PLAIN, raised, slow_read
from tests.test_stands import FIRST, NO_HEARD, slow_word

NO_ROWS = [*NO_LISTS, [30], [-1], [0, 1, 30], [True], [None], ["outset"], [[0]], [0] * 10001, [0.0], {0}, [10**45]]
NO_PASSES = [0, -1, 20001, 10**45, *NO_INTEGERS]
# Says each number that it hears, and is done behind the first 0.
TELLER = [0, 1, 2, 3, 9, 3, 10, 23, 25, 20, 3, 13, 28, 1, 2, 29]


def slow_run(row, heard, passes):
    """The parts of the Run, by the table of [10] word by word."""
    parts = FIRST
    for ahead in range(passes):
        for number in row:
            parts = slow_word(parts, number, heard)
        if parts["is_done"]:
            return ("finished", parts["said"], ahead + 1)
    return ("late", parts["said"], passes)


def passed_run(row, heard, passes):
    """The parts of the Run, pass by pass."""
    stand = begun()
    for ahead in range(passes):
        stand = passed(stand, row, heard)
        if stand.is_done:
            return ("finished", stand.said, ahead + 1)
    return ("late", stand.said, passes)


def drawn_row(drawn, most):
    """A row of which much is done: flags are up, journeys lead to blocks that there are, the run is done now and then."""
    row = drawn.choice(([], [0], [0, 1, 2], [0, 1, 2], [0, 1, 2], [2, 0, 1, 2], [0, 2, 1, 2], [1, 2]))
    row = list(row)
    pieces = (
        [1, 2], [1, 2], [1, 2], [0, 1, 2], [2], [1], [0], [3, 9], [3, 10], [3, 10], [20, 3, 13, 27, 28],
        [20, 3, 14, 27, 28], [20, 27, 28], [23, 25, 20, 3, 15, 28], [24, 26, 20, 3, 13, 28], [29], [21], [3, 5],
        [3, 4], [3, 7], [22], [3, 11], [20, 3, 14, 21, 3, 6], [drawn.randrange(30)], [drawn.randrange(3, 30)] * 3,
    )
    while len(row) < most:
        row += drawn.choice(pieces)
    return row[:most]


class Runs(unittest.TestCase):
    def test_small_rows_against_the_table(self):
        drawn = random.Random(1001)
        outcomes = set()
        for _ in range(1500):
            row = drawn_row(drawn, drawn.randint(0, 40))
            heard = [drawn.randint(-3, 3) for _ in range(drawn.randint(0, 4))]
            passes = drawn.randint(1, 7)
            told = run_row(row, heard, passes)
            self.assertEqual(repr(told.parts), repr(slow_run(row, heard, passes)), (row, heard, passes))
            outcomes.add((told.outcome, len(told.said) > 2, told.passes > 2))
        self.assertGreaterEqual(len(outcomes), 6)

    def test_all_rows_of_few_words(self):
        for length in range(5):
            for row in itertools.product((0, 1, 2, 3, 10, 29), repeat=length):
                self.assertEqual(run_row(row, (), 3).parts, slow_run(row, (), 3), row)

    def test_longer_rows_pass_by_pass(self):
        drawn = random.Random(1002)
        for _ in range(150):
            row = drawn_row(drawn, drawn.randint(100, 300))
            heard = [drawn.randint(-10**40, 10**40) for _ in range(drawn.randint(0, 4))]
            self.assertEqual(run_row(row, heard, 12).parts, passed_run(row, heard, 12), row)

    def test_finished_in_just_so_many_passes(self):
        for count in (0, 1, 2, 5, 30):
            heard = [7] * count + [0, 9]
            said = (7,) * count + (0,)
            self.assertEqual(run_row(TELLER, heard, count + 1).parts, ("finished", said, count + 1))
            self.assertEqual(run_row(TELLER, heard, 20000).parts, ("finished", said, count + 1))
            if count:
                self.assertEqual(run_row(TELLER, heard, count).parts, ("late", said[:count], count))

    def test_rows_that_never_are_done(self):
        self.assertEqual(run_row([], [5], 20000).parts, ("late", (), 20000))
        self.assertEqual(run_row((0, 1, 2, 3, 10), (), 1).parts, ("late", (0,), 1))
        self.assertEqual(run_row([0, 1, 2, 3, 10], (), 20000).parts, ("late", (0,) * 20000, 20000))
        # The block goes up and up, and no room is met.
        self.assertEqual(run_row([1, 2, 1, 2, 3, 10], (), 20000).parts, ("late", (), 20000))
        self.assertEqual(run_row([1, 2, 3, 10], (), 7).parts, ("late", (0,), 7))

    def test_many_numbers_and_large_ones(self):
        heard = [10**44 + number for number in range(9999)] + [0]
        told = run_row(TELLER, heard, 20000)
        self.assertEqual(told.parts, ("finished", tuple(heard), 10000))
        square = [0, 1, 2, 3, 9, 21, 3, 6, 21, 3, 6, 21, 3, 6, 3, 10, 29]
        self.assertEqual(run_row(square, [-(10**45)], 1).said, (10**360,))

    def test_the_paper(self):
        told = run_row(heard=(6,), passes=9, row=TELLER)
        self.assertEqual((told.word, told.outcome, told.said, told.passes), ("run", "finished", (6, 0), 2))
        self.assertEqual(told, Run("finished", [6, 0], 2))
        self.assertNotEqual(told, run_row(TELLER, (6,), 1))
        self.assertIs(bool(run_row((), (), 1)), True)
        self.assertEqual(run_row(tuple(TELLER), [6], 9), run_row(TELLER, (6,), 9))

    def test_in_a_short_time(self):
        started = time.perf_counter()
        for row, passes in (([0, 1, 2] + [3, 4] * 4998, 30), ([3, 10, 1] * 3333, 30), ([0, 1, 2, 3, 4] * 3, 20000), ([3, 10], 20000)):
            run_row(row, (), passes)
            run_text(spelled(plain_book(), row, 1), (), passes)
        self.assertLess(time.perf_counter() - started, 15)

    def test_errors_in_their_order(self):
        for row in NO_ROWS:
            self.assertEqual(raised(run_row, row, None, None), ("BadRow", "row"))
            self.assertEqual(raised(run_row, passes=1, heard=(), row=row), ("BadRow", "row"))
        for heard in NO_HEARD:
            self.assertEqual(raised(run_row, [29], heard, 0), ("BadHeard", "heard"))
            self.assertEqual(raised(run_row, (), heard, 1), ("BadHeard", "heard"))
        for passes in NO_PASSES:
            self.assertEqual(raised(run_row, (), (), passes), ("BadNumber", "passes"))
        self.assertIsNone(raised(run_row, [29] * 10000, (), 20000))


class RunTexts(unittest.TestCase):
    def test_the_row_that_is_read(self):
        drawn = random.Random(1003)
        for _ in range(200):
            items = drawn.choices([*PLAIN, *PLAIN, "", "x", "prepar", "finishh", "journeyjourney"], k=drawn.randint(0, 60))
            text = " ".join(["outset uplift advance", *items])
            heard = [drawn.randint(-3, 3) for _ in range(3)]
            self.assertEqual(run_text(text, heard, 4), run_row(slow_read(PLAIN, text), heard, 4))
        self.assertEqual(run_text("", (), 1).parts, ("late", (), 1))
        self.assertEqual(run_text(heard=(), text="  ", passes=3).parts, ("late", (), 3))

    def test_texts_of_more_than_10000_words(self):
        text = " ".join(["outset"] * 9000 + ["uplift"] * 9000 + ["advance", "finish"])
        self.assertEqual(run_text(text, (), 5).parts, ("finished", (), 1))

    def test_damaged_anywhere(self):
        drawn = random.Random(1004)
        for many in (1, 2, 3):
            for row in (TELLER, *[drawn_row(drawn, 30) for _ in range(5)]):
                text = spelled(plain_book(), row, 2 * many + 1)
                wanted = run_row(row, (4, -1), 9)
                for _ in range(40):
                    self.assertEqual(run_text(damaged(text, drawn_damage(drawn, text, many)), (4, -1), 9), wanted)

    def test_errors_in_their_order(self):
        for text in NO_TEXTS:
            self.assertEqual(raised(run_text, text, None, None), ("BadText", "text"))
        for heard in NO_HEARD:
            self.assertEqual(raised(run_text, "finish", heard, 0), ("BadHeard", "heard"))
        for passes in NO_PASSES:
            self.assertEqual(raised(run_text, "", [1], passes), ("BadNumber", "passes"))


class Blocks(unittest.TestCase):
    def test_against_the_table(self):
        drawn = random.Random(1005)
        for _ in range(500):
            row = drawn_row(drawn, drawn.randint(0, 40))
            parts, blocks = FIRST, []
            for number in row:
                if number != 29:
                    parts = slow_word(parts, number, ())
                blocks.append(parts["block"])
            self.assertEqual(blocks_of(row), tuple(blocks))
        self.assertEqual(blocks_of(row=[]), ())
        self.assertEqual(blocks_of((29, 1, 2, 29, 2, 1, 1, 2, 0)), (-1, -1, 0, 0, 0, 0, 0, 1, -1))
        self.assertEqual(len(blocks_of([0] * 10000)), 10000)

    def test_errors(self):
        for row in NO_ROWS:
            self.assertEqual(raised(blocks_of, row), ("BadRow", "row"))


def drawn_damage(drawn, text, many):
    """So many edits that can be done one behind another."""
    edits = []
    for _ in range(many):
        sign = drawn.choice("  abcdefghijklmnopqrstuvwxyz")
        at = drawn.randrange(len(text))
        kind = drawn.choice(("lost", "put", "changed"))
        # Blanks are where most can be done.
        if drawn.random() < 0.4 and " " in text:
            at = drawn.choice([place for place, known in enumerate(text) if known == " "])
        if kind == "changed" and text[at] == sign:
            kind = "put"
        edits.append(("lost", at) if kind == "lost" else (kind, at, sign))
        text = damaged(text, edits[-1:])
    return edits
