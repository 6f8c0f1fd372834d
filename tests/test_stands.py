import itertools
import random
import time
import unittest
import unittest.mock

from anyletter.stands import Stand, begun, done_word, passed
from tests.support import NO_INTEGERS, NO_LISTS, PLAIN, raised

PARTS = "block room tick flag test mode first second cells heard said is_done".split()
FIRST = dict(zip(PARTS, (-1, 0, False, False, False, 2, 0, 0, (), 0, (), False)))
NO_STANDS = [None, 0, True, (), [], "stand", Stand, object(), tuple(FIRST.values()), dict(FIRST)]
NO_HEARD = [*NO_LISTS, [True], [1, None], ["1"], [[1]], [1.0], {1}, (0, False)]
DIGITS = "cipher single couple tripled quarter fivefold hexagon weekday".split()


def parts_of_stand(stand):
    return {part: getattr(stand, part) for part in PARTS}


def slow_word(parts, number, heard):
    """The parts of the stand behind a word, by the table of [10]."""
    new, word = dict(parts), PLAIN[number]
    here = parts["block"] == parts["room"]
    first, second = parts["first"], parts["second"]
    if parts["is_done"]:
        return new
    if word == "outset":
        new["block"] = -1
    if word == "uplift":
        new["tick"] = True
    if word == "advance" and parts["tick"]:
        new.update(block=parts["block"] + 1, tick=False)
    if number < 3 or not here:
        return new
    if 4 <= number <= 19:
        if not parts["flag"]:
            return new
        new["flag"] = False
    new.update(slow_deed(parts, word, heard, first, second))
    return new


def slow_deed(parts, word, heard, first, second):
    """What changes by the deed of a word that is here, and whose flag was up if it wants it."""
    cells = dict(parts["cells"])
    if word == "deposit":
        cells[second] = first
        return {"cells": tuple(sorted((cell, number) for cell, number in cells.items() if number))}
    if word == "inquire":
        left = heard[parts["heard"]:]
        return {"first": left[0], "heard": parts["heard"] + 1} if left else {"first": 0}
    if word == "journey":
        goes = {0: parts["test"], 1: not parts["test"], 2: True}[parts["mode"]]
        return {"room": first} if goes else {}
    if word in DIGITS:
        return {"first": 8 * first + DIGITS.index(word)}
    return {
        "prepare": {"flag": True}, "augment": {"first": first + second}, "lessen": {"first": first - second},
        "multiply": {"first": first * second}, "portion": {"first": 0 if second == 0 else first // second},
        "exchange": {"first": second, "second": first}, "proclaim": {"said": parts["said"] + (first,)},
        "obtain": {"first": cells.get(first, 0)}, "nothing": {"first": 0}, "duplicate": {"second": first},
        "whether": {"test": first == 0}, "negative": {"test": first < 0}, "granted": {"mode": 0}, "otherwise": {"mode": 1},
        "anyway": {"mode": 2}, "finish": {"is_done": True},
    }[word]


def drawn_parts(drawn):
    """Parts of a stand, drawn so that blocks and rooms, cells and numbers often are the same."""
    cells = sorted(drawn.sample(range(-3, 5), drawn.randint(0, 4)))
    return {
        "block": drawn.randint(-1, 2), "room": drawn.randint(-1, 2), "tick": drawn.random() < 0.5,
        "flag": drawn.random() < 0.7, "test": drawn.random() < 0.5, "mode": drawn.randint(0, 2),
        "first": drawn.randint(-3, 4), "second": drawn.randint(-3, 4),
        "cells": tuple((cell, drawn.choice((-2, -1, 1, 2, 10**45))) for cell in cells),
        "heard": drawn.randint(0, 3), "said": tuple(drawn.sample(range(-2, 3), drawn.randint(0, 3))),
        "is_done": drawn.random() < 0.1,
    }


def all_stands_with_numbers():
    """Parts with each of the truths and modes, here and not here, with some numbers in first, second and a cell."""
    numbers = [(0, 0), (7, 2), (-7, 2), (7, -2), (-7, -2), (5, 0), (-1, -1), (0, 3), (3, 3)]
    for tick, flag, test, is_done in itertools.product((True, False), repeat=4):
        for mode in (0, 1, 2):
            for block, room in ((0, 0), (1, 0), (-1, -1), (-1, 0), (2, 3)):
                for first, second in numbers:
                    yield dict(zip(PARTS, (
                        block, room, tick, flag, test, mode, first, second, ((-7, 4), (-1, 9), (3, 6)), 1, (8,), is_done,
                    )))


class Stands(unittest.TestCase):
    def test_attributes(self):
        drawn = random.Random(91)
        for _ in range(100):
            parts = drawn_parts(drawn)
            self.assertEqual(parts_of_stand(Stand(**parts)), parts)
            self.assertEqual(parts_of_stand(Stand(*parts.values())), parts)
        stand = Stand(**{**FIRST, "cells": [[-2, 1], (5, -6)], "said": [1, 1]})
        self.assertEqual((stand.cells, stand.said), (((-2, 1), (5, -6)), (1, 1)))
        self.assertEqual({type(pair) for pair in stand.cells}, {tuple})
        self.assertIsInstance(stand.said, tuple)

    def test_what_is_passed_is_copied(self):
        cells, said = [[1, 2]], [3]
        stand = Stand(**{**FIRST, "cells": cells, "said": said})
        cells[0][1] = 9
        cells.append([2, 2])
        said.append(4)
        self.assertEqual((stand.cells, stand.said), (((1, 2),), (3,)))

    def test_equal_exactly_if_all_attributes_are(self):
        drawn = random.Random(92)
        for _ in range(50):
            parts = drawn_parts(drawn)
            other = drawn_parts(drawn)
            stand = Stand(**parts)
            self.assertIs(stand == Stand(**parts), True)
            self.assertIs(stand != Stand(**parts), False)
            for part in PARTS:
                bent = Stand(**{**parts, part: other[part]})
                self.assertIs(stand == bent, parts[part] == other[part], part)
            for value in NO_STANDS:
                self.assertIs(stand == value, False)

    def test_far_values(self):
        big = 10**45
        stand = Stand(big, -big, True, True, True, 0, -big, big, [(-big, big), (big, -big)], big, [big], True)
        self.assertEqual([stand.cell(-big), stand.cell(big), stand.cell(0)], [big, -big, 0])
        self.assertEqual(done_word(stand, 20, ()), stand)

    def wrong_parts(self):
        no_truths = [None, 0, 1, "", "True", (), [], 1.0, object()]
        return {
            "block": [-2, -10**45, *NO_INTEGERS], "room": NO_INTEGERS, "tick": no_truths, "flag": no_truths,
            "test": no_truths, "mode": [-1, 3, *NO_INTEGERS], "first": NO_INTEGERS, "second": NO_INTEGERS,
            "cells": [
                *NO_LISTS, [1], [(1,)], [(1, 2, 3)], [(1, 0)], [(2, 1), (1, 1)], [(1, 1), (1, 1)], [(1, 1), (1, 2)],
                [(True, 1)], [(1, True)], [(1, None)], [("1", 1)], [(1, 1), None], ["ab"], [{1: 1}], [(1, 1.0)], (1, 2),
                [(0, 1), (1, 0)], [(1, 1), (0, 1), (2, 1)], [[[1, 1]]], {(1, 1)},
            ],
            "heard": [-1, *NO_INTEGERS], "said": NO_HEARD, "is_done": no_truths,
        }

    def test_each_part_spoilt_in_its_turn(self):
        for part, values in self.wrong_parts().items():
            for value in values:
                self.assertEqual(raised(Stand, **{**FIRST, part: value}), ("BadMachine", part), (part, value))
                self.assertEqual(raised(Stand, *{**FIRST, part: value}.values()), ("BadMachine", part))

    def test_two_parts_spoilt_at_once(self):
        wrong = self.wrong_parts()
        for one, other in itertools.combinations(PARTS, 2):
            for value in (wrong[other][0], wrong[other][-1]):
                self.assertEqual(raised(Stand, **{**FIRST, one: wrong[one][0], other: value}), ("BadMachine", one))

    def test_cells(self):
        stand = Stand(**{**FIRST, "cells": [(-5, 3), (0, 2), (7, -1)]})
        self.assertEqual([stand.cell(place) for place in range(-6, 9)], [0, 3, 0, 0, 0, 0, 2, 0, 0, 0, 0, 0, 0, -1, 0])
        self.assertEqual(stand.cell(place=7), -1)
        self.assertEqual(begun().cell(10**45), 0)
        for place in NO_INTEGERS:
            self.assertEqual(raised(stand.cell, place), ("BadNumber", "place"))
            self.assertEqual(raised(begun().cell, place=place), ("BadNumber", "place"))

    def test_begun(self):
        self.assertEqual(parts_of_stand(begun()), FIRST)
        self.assertEqual(begun(), Stand(**FIRST))


class DoneWord(unittest.TestCase):
    def check_word(self, parts, number, heard):
        stand = Stand(**parts)
        told = done_word(stand, number, heard)
        self.assertEqual(parts_of_stand(told), slow_word(parts, number, heard), (parts, PLAIN[number], heard))
        # True is no 1 here.
        self.assertEqual(repr(parts_of_stand(told)), repr(slow_word(parts, number, heard)))
        self.assertEqual(parts_of_stand(stand), parts)
        self.assertEqual(done_word(told, number, heard), told, PLAIN[number])
        self.assertEqual(passed(stand, [number, number], heard), told)

    def test_each_word_from_stands_of_all_kinds(self):
        for parts in all_stands_with_numbers():
            for number in range(30):
                self.check_word(parts, number, (5, -6))

    def test_each_word_from_drawn_stands(self):
        drawn = random.Random(93)
        for _ in range(200):
            parts = drawn_parts(drawn)
            heard = [drawn.randint(-5, 5) for _ in range(drawn.randint(0, 4))]
            for number in range(30):
                self.check_word(parts, number, heard)

    def here(self, **parts):
        return Stand(**{**FIRST, "block": 0, "flag": True, **parts})

    def test_division_is_rounded_down(self):
        for first, second, wanted in ((7, 2, 3), (-7, 2, -4), (7, -2, -4), (-7, -2, 3), (5, 0, 0), (-5, 0, 0), (0, 5, 0)):
            told = done_word(self.here(first=first, second=second), 7, ())
            self.assertEqual((told.first, told.second, told.flag), (wanted, second, False))

    def test_cells_that_become_nothing(self):
        stand = self.here(cells=[(-3, 1), (2, 5)], second=-3)
        self.assertEqual(done_word(stand, 22, ()).cells, ((2, 5),))
        self.assertEqual(done_word(self.here(second=9), 22, ()).cells, ())
        self.assertEqual(done_word(self.here(cells=[(2, 5)], first=-8, second=-3), 22, ()).cells, ((-3, -8), (2, 5)))
        self.assertEqual(done_word(self.here(cells=[(2, 5)], first=-8, second=2), 22, ()).cells, ((2, -8),))

    def test_nothing_left_to_hear_is_not_counted(self):
        for heard, count, wanted in (((), 0, (0, 0)), ((4, 5), 1, (5, 2)), ((4, 5), 2, (0, 2)), ((4, 5), 9, (0, 9)), ((0,), 0, (0, 1))):
            told = done_word(self.here(first=3, heard=count), 9, heard)
            self.assertEqual((told.first, told.heard), wanted)

    def test_a_journey_by_each_mode(self):
        for mode, test, wanted in ((0, True, 4), (0, False, 0), (1, True, 0), (1, False, 4), (2, True, 4), (2, False, 4)):
            self.assertEqual(done_word(self.here(first=4, mode=mode, test=test), 28, ()).room, wanted)

    def test_large_numbers(self):
        told = done_word(self.here(first=10**45, second=-10**45), 6, ())
        self.assertEqual(told.first, -10**90)
        self.assertEqual(done_word(self.here(first=-10**45), 19, ()).first, -8 * 10**45 + 7)

    def test_errors_in_their_order(self):
        for stand in NO_STANDS:
            self.assertEqual(raised(done_word, stand, 30, None), ("BadMachine", "stand"))
            self.assertEqual(raised(done_word, heard=(), number=0, stand=stand), ("BadMachine", "stand"))
        for number in (-1, 30, 10**45, *NO_INTEGERS):
            self.assertEqual(raised(done_word, begun(), number, None), ("BadNumber", "number"))
            self.assertEqual(raised(done_word, begun(), number, ()), ("BadNumber", "number"))
        for heard in NO_HEARD:
            for stand in (begun(), Stand(**{**FIRST, "is_done": True})):
                self.assertEqual(raised(done_word, stand, 29, heard), ("BadHeard", "heard"))


class Passed(unittest.TestCase):
    def test_rows_against_the_slow_reckoning(self):
        drawn = random.Random(94)
        for _ in range(400):
            parts = FIRST if drawn.random() < 0.4 else drawn_parts(drawn)
            # Words that are hindered seldom: so blocks are begun and flags are up.
            row = drawn.choices([0, 1, 2, 1, 2, *range(3, 30), *[3] * 12], k=drawn.randint(0, 40))
            heard = [drawn.randint(-5, 5) for _ in range(drawn.randint(0, 4))]
            wanted = parts
            for number in row:
                wanted = slow_word(wanted, number, heard)
            self.assertEqual(parts_of_stand(passed(Stand(**parts), row, heard)), wanted, (parts, row))
            self.assertEqual(passed(heard=tuple(heard), row=tuple(row), stand=Stand(**parts)), Stand(**wanted))

    def test_each_word_one_or_more_times_is_the_same(self):
        drawn = random.Random(95)
        for _ in range(200):
            parts = drawn_parts(drawn)
            row = [number for number in drawn.choices(range(30), k=20)]
            thick = [number for number in row for _ in range(drawn.randint(1, 4))]
            self.assertEqual(passed(Stand(**parts), row, (1, 2, 3)), passed(Stand(**parts), thick, (1, 2, 3)))

    def test_a_journey_ahead_is_gone_in_the_same_pass(self):
        # Block 0 says 8 and goes to block 2, which finishes.
        row = [0, 1, 2, 20, 3, 13, 3, 12, 3, 10, 20, 3, 14, 28, 1, 2, 3, 10, 1, 2, 29]
        told = passed(begun(), row, ())
        self.assertEqual((told.said, told.room, told.is_done), ((8,), 2, True))
        back = [0, 1, 2, 3, 10, 20, 3, 13, 28, 1, 2, 20, 28, 3, 10]
        first = passed(begun(), back, ())
        self.assertEqual((first.said, first.room), ((0,), 0))
        self.assertEqual(passed(first, back, ()).said, (0, 0))

    def test_empty_rows_and_stands_that_are_done(self):
        drawn = random.Random(96)
        for _ in range(30):
            parts = drawn_parts(drawn)
            self.assertEqual(passed(Stand(**parts), [], ()), Stand(**parts))
            over = {**parts, "is_done": True}
            self.assertEqual(parts_of_stand(passed(Stand(**over), list(range(30)) * 3, (1,))), over)

    def test_what_is_passed_stays(self):
        row, heard = [0, 1, 2, 3, 9, 3, 10], [5]
        stand = begun()
        self.assertEqual(passed(stand, row, heard).said, (5,))
        self.assertEqual((row, heard, stand), ([0, 1, 2, 3, 9, 3, 10], [5], begun()))

    def test_long_rows_in_a_short_time(self):
        started = time.perf_counter()
        row = ([0, 1, 2] + [3, 10] * 5000)[:10000]
        told = passed(begun(), row, list(range(9000)))
        self.assertEqual(told.said, (0,) * 4998)
        many = Stand(**{**FIRST, "cells": [(cell, 1) for cell in range(9000)]})
        self.assertEqual(len(passed(many, [0, 1, 2] + [22, 20] * 4000, ()).cells), 8999)
        self.assertLess(time.perf_counter() - started, 10)

    def test_errors_in_their_order(self):
        for stand in NO_STANDS:
            self.assertEqual(raised(passed, stand, [30], None), ("BadMachine", "stand"))
        for row in (*NO_LISTS, [30], [-1], [0, 1, 30], [True], [None], ["outset"], [[0]], [0] * 10001, [0.0], {0}, [10**45]):
            self.assertEqual(raised(passed, begun(), row, None), ("BadRow", "row"))
            self.assertEqual(raised(passed, heard=(), row=row, stand=begun()), ("BadRow", "row"))
        for heard in NO_HEARD:
            self.assertEqual(raised(passed, begun(), [0] * 10000, heard), ("BadHeard", "heard"))
            self.assertEqual(raised(passed, begun(), [], heard), ("BadHeard", "heard"))
