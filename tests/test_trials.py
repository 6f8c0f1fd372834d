import random
import unittest

from anyletter.books import spelled
from anyletter.edits import damaged
from anyletter.plain import plain_book
from anyletter.programs import Program
from anyletter.rows_of import row_of, text_of
from anyletter.runs import Run, run_row, run_text
from anyletter.stands import begun, passed
from anyletter.trials import Trial, breaking, parted_at, trial
from tests.programs_drawn import Drawing
from tests.support import NO_INTEGERS, NO_LISTS, NO_TEXTS, PLAIN, raised, slow_read
from tests.test_programs import NO_PROGRAMS
from tests.test_rows_of import LONG, LONG_MINE
from tests.test_runs import NO_PASSES, drawn_damage, drawn_row
from tests.test_stands import NO_HEARD

PLUS = Program(["hear a", "say a + 1"])
ONE = "outset uplift advance prepare single prepare proclaim finish"


def slow_breaking(program, heard, passes):
    """The first of all blanks between copies, each of which is taken out of the text."""
    row = row_of(program)
    text = spelled(plain_book(), row, 2)
    sound = run_text(text, heard, passes).parts[:2]
    at = 0
    for number in row:
        at += len(PLAIN[number])
        assert text[at] == " "
        if run_text(text[:at] + text[at + 1:], heard, passes).parts[:2] != sound:
            return (("lost", at),)
        at += len(PLAIN[number]) + 2
    return None


def slow_parted(text, other, heard, passes):
    """The first pass behind which the stands are unlike."""
    rows = [slow_read(PLAIN, text), slow_read(PLAIN, other)]
    stands = [begun(), begun()]
    for ahead in range(passes):
        stands = [passed(stand, row, heard) for stand, row in zip(stands, rows)]
        if stands[0] != stands[1]:
            return ahead + 1
    return None


class Trials(unittest.TestCase):
    def test_both_runs(self):
        drawn = random.Random(1801)
        for _ in range(60):
            program = Program(Drawing(drawn).lines(8))
            many = drawn.randint(0, 3)
            text = text_of(program, many)
            edits = drawn_damage(drawn, text, drawn.randint(0, 12))
            told = trial(program, many, edits, (2, -1), 20)
            self.assertEqual(told, Trial(run_text(text, (2, -1), 20), run_text(damaged(text, edits), (2, -1), 20)))

    def test_edits_that_the_copies_allow_change_nothing(self):
        drawn = random.Random(1802)
        for many in (1, 2, 3):
            for program in (PLUS, Program(["while 1", "hear x", "say x", "end"]), *[Program(Drawing(drawn).lines(9)) for _ in range(6)]):
                text = text_of(program, many)
                for _ in range(8):
                    told = trial(program, many, drawn_damage(drawn, text, many), [3, 1], 12)
                    self.assertEqual(told.hurt, told.sound)

    def test_without_copies_some_edits_do(self):
        text = text_of(PLUS, 0)
        told = trial(PLUS, 0, [("lost", text.index("inquire"))], [41], 20)
        self.assertEqual((told.sound.said, told.hurt.said), ((42,), (1,)))
        self.assertEqual(trial(PLUS, 0, [("lost", 0)], [41], 20).sound.parts, ("finished", (42,), 1))

    def test_the_paper(self):
        told = trial(passes=9, heard=[1], edits=(), many=1, program=PLUS)
        self.assertEqual((told.word, told.parts), ("trial", (told.sound, told.hurt)))
        self.assertEqual(told, Trial(Run("finished", (2,), 1), hurt=Run("finished", [2], 1)))
        self.assertEqual(trial(PLUS, 1, [["lost", 0]], (1,), 9), trial(PLUS, 1, (("lost", 0),), [1], 9))

    def test_damages_of_12_edits_and_13(self):
        self.assertEqual(trial(PLUS, 1, [("lost", 0)] * 12, [1], 9).sound.said, (2,))
        self.assertEqual(raised(trial, PLUS, 1, [("lost", 0)] * 13, [1], 9), ("BadEdits", "edits"))

    def test_programs_with_mine(self):
        told = trial(Program(["say mine 1"]), 1, [("lost", 5), ], (), 20)
        self.assertEqual((told.sound.said, told.hurt), ((1,), told.sound))

    def test_errors_in_their_order(self):
        most = Program([LONG_MINE] + [LONG] * 59)
        for value in NO_PROGRAMS:
            self.assertEqual(raised(trial, value, None, None, None, None), ("BadProgram", "program"))
        for many in (-1, 4, 10**45, *NO_INTEGERS):
            self.assertEqual(raised(trial, most, many, None, None, None), ("BadNumber", "many"))
        self.assertEqual(raised(trial, most, 3, None, None, None), ("TooMany", "words", 10000))
        self.assertEqual(raised(trial, Program([LONG_MINE] * 3 + [LONG] * 9), 3, None, None, None), ("Misfit", "signs"))
        text = text_of(PLUS, 1)
        for edits in (*NO_LISTS, [("lost", len(text))], [("changed", 0, "o")], [("put", 0, "oo")], [("lost", True)], [0], [()]):
            self.assertEqual(raised(trial, PLUS, 1, edits, None, None), ("BadEdits", "edits"))
        for heard in NO_HEARD:
            self.assertEqual(raised(trial, PLUS, 1, [], heard, None), ("BadHeard", "heard"))
        for passes in NO_PASSES:
            self.assertEqual(raised(trial, PLUS, 1, [], (), passes), ("BadNumber", "passes"))


class Breaking(unittest.TestCase):
    def test_against_all_blanks(self):
        drawn = random.Random(1803)
        found = []
        for _ in range(60):
            program = Program(Drawing(drawn).lines(drawn.randint(0, 8)))
            for heard, passes in (((2, -1), 9), ((), 1), ((1,), 2)):
                told = breaking(program, heard, passes)
                self.assertEqual(told, slow_breaking(program, heard, passes), program.lines)
                found.append(told)
        self.assertTrue(0 < found.count(None) < len(found))
        self.assertGreater(len(set(found)), 3)

    def test_otherwise_by_what_is_said_or_by_the_outcome_alone(self):
        # Without its first outset a program that is done in the first pass does the same.
        self.assertEqual(breaking(Program([]), (), 5), (("lost", 20),))
        self.assertEqual(spelled(plain_book(), row_of(Program([])), 2)[14:27], "uplift uplift")
        # One way and the other it stops and has said nothing: each word that stops it is there twice.
        self.assertIsNone(breaking(Program(["stop", "stop", "if b", "end"]), (), 30))
        # Without an uplift the last room is done ahead of the others: so it is not late.
        told = breaking(Program(["while 1", "end"]), (), 30)
        self.assertEqual(told, slow_breaking(Program(["while 1", "end"]), (), 30))
        # The number of passes alone makes it no other one.
        program = Program(["let n 2", "while n", "let n n - 1", "end"])
        self.assertEqual(breaking(program, (), 40), slow_breaking(program, (), 40))

    def test_words_that_stand_side_by_side(self):
        # Of two journeys, or of like words side by side, the second one does nothing.
        self.assertEqual(breaking(Program(["stop", "stop"]), [], 3), slow_breaking(Program(["stop", "stop"]), [], 3))

    def test_programs_with_mine(self):
        edits = breaking(program=Program(["say mine 1"]), heard=(), passes=30)
        text = spelled(plain_book(), row_of(Program(["say mine 1"])), 2)
        self.assertEqual(text[edits[0][1]], " ")
        self.assertNotEqual(run_text(damaged(text, edits), (), 30).parts[:2], ("finished", (1,)))

    def test_errors_in_their_order(self):
        most = Program([LONG_MINE] + [LONG] * 59)
        for value in NO_PROGRAMS:
            self.assertEqual(raised(breaking, value, None, None), ("BadProgram", "program"))
        for heard in NO_HEARD:
            self.assertEqual(raised(breaking, most, heard, None), ("BadHeard", "heard"))
        for passes in (0, 20001, *NO_INTEGERS):
            self.assertEqual(raised(breaking, most, (), passes), ("BadNumber", "passes"))
        self.assertEqual(raised(breaking, most, (), 20000), ("TooMany", "words", 10000))


class Parted(unittest.TestCase):
    def test_drawn_texts(self):
        drawn = random.Random(1804)
        found = []
        for _ in range(500):
            row = drawn_row(drawn, drawn.randint(0, 40))
            other = list(row)
            for _ in range(drawn.randint(0, 2)):
                place = drawn.randint(0, len(other))
                other[place:place + drawn.randint(0, 1)] = drawn.choice(([], [3], [10], [20], [1, 2], [27], [1]))
            texts = [spelled(plain_book(), each, drawn.randint(1, 2)) for each in (row, other)]
            heard = [drawn.randint(-3, 3) for _ in range(3)]
            told = parted_at(*texts, heard, 6)
            self.assertEqual(told, slow_parted(*texts, heard, 6), texts)
            found.append(told)
        self.assertTrue({None, 1, 2, 3} <= set(found))

    def test_each_part_of_a_stand(self):
        head = "outset uplift advance "
        for other in ("uplift", "uplift advance", "prepare", "prepare single", "whether", "anyway whether granted", "prepare proclaim"):
            self.assertEqual(parted_at(head + "cipher", head + other, (), 5), 1, other)
        for one, other in (
            ("prepare single duplicate", "prepare single"), ("prepare single deposit nothing", "prepare single nothing"),
            ("prepare inquire", ""), ("finish", ""), ("prepare single journey", "prepare single"), ("granted", "otherwise"),
        ):
            self.assertEqual(parted_at(head + one, head + other, (0,), 5), 1, one)
            self.assertIsNone(parted_at(head + one, head + one + " " + one.split(" ")[-1], (0,), 5))

    def test_block_and_tick_where_the_run_is_done(self):
        head = "outset uplift advance anyway "
        self.assertEqual(parted_at(head + "uplift finish", head + "finish uplift", (), 5), 1)
        self.assertIsNone(parted_at(head + "finish uplift", head + "finish", (), 5))
        self.assertIsNone(parted_at(head + "finish uplift advance anyway", head + "finish", (), 5))
        goes = "nothing prepare single journey uplift advance anyway "
        self.assertEqual(parted_at(head + goes + "finish", head + goes + "uplift finish", (), 5), 1)
        self.assertIsNone(parted_at(head + goes + "finish outset", head + goes + "finish uplift advance", (), 5))

    def test_late_and_never(self):
        # The second pass hears another number.
        teller = "outset uplift advance prepare inquire prepare proclaim whether granted nothing prepare single journey uplift advance finish"
        bent = teller + " nothing"
        self.assertIsNone(parted_at(teller, bent, [4, 5], 20000))
        other = teller.replace("whether", "negative")
        self.assertEqual(parted_at(teller, other, [4, -5, 0], 9), 2)
        self.assertEqual(parted_at(other="outset", text="", heard=(), passes=3), None)
        self.assertEqual(parted_at("uplift advance", "outset uplift advance", (), 5), 2)
        self.assertIsNone(parted_at("uplift advance", "outset uplift advance", (), 1))

    def test_one_is_done_ahead(self):
        self.assertEqual(parted_at(ONE, ONE[:-7], (), 1), 1)
        rounds = "outset uplift advance prepare inquire whether granted nothing prepare single journey"
        self.assertEqual(parted_at(rounds + " uplift advance finish", rounds, [5, 5, 0], 9), 1)
        self.assertEqual(parted_at(rounds + " uplift advance finish", rounds + " uplift advance anyway", [5, 5, 0], 9), 3)
        self.assertIsNone(parted_at(rounds + " uplift advance finish", rounds + " uplift advance anyway", [5, 5, 0], 2))

    def test_errors_in_their_order(self):
        for text in NO_TEXTS:
            self.assertEqual(raised(parted_at, text, None, None, None), ("BadText", "text"))
            self.assertEqual(raised(parted_at, "", text, None, None), ("BadText", "other"))
        for heard in NO_HEARD:
            self.assertEqual(raised(parted_at, "", "", heard, None), ("BadHeard", "heard"))
        for passes in NO_PASSES:
            self.assertEqual(raised(parted_at, "", "", (), passes), ("BadNumber", "passes"))

    def test_it_says_where_runs_of_rows_part(self):
        row = row_of(PLUS)
        text = spelled(plain_book(), row, 1)
        self.assertIsNone(parted_at(text, spelled(plain_book(), row, 5), [4], 9))
        self.assertEqual(run_row(row, [4], 9).said, (5,))
