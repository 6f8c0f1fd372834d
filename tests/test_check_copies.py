import random
import unittest
import unittest.mock

from anyletter.books import Book
from anyletter.check_copies import shows_copies, shows_machine, shows_text
from anyletter.copies import Copies, GoesRound, Parts, Stands, copies_for, judged_text
from anyletter.lets import Differs, Lets, judged_machine
from anyletter.machines import Machine
from anyletter.papers import Denial, Paper
from tests.support import NO_INTEGERS, NO_LISTS, all_edits, raised, slow_left, slow_spelled
from tests.test_check_ways import bent_in_one_place
from tests.test_copies import chain, drawn_deeds, is_parting, slow_leads_back
from tests.test_lets import any_once, is_differing
from tests.test_machines import NO_MACHINES, TINY
from tests.test_settled import slow_settles

SWITCH, COUNTER = Machine(TINY, [[1, 0], [0, 0]]), Machine(TINY, [[1, 2, 2], [0, 0, 0]])
LATCH = Machine(TINY, [[1, 1], [0, 0]])
EDITS = [("lost", 2)]
# What is no paper of this kind, whatever is asked.
OTHERS = [
    *NO_LISTS, [4, 3], (0, 1), Paper("copies", (4, 3)), Paper("stands"), Paper("lets"), Denial("goesround", 0, 1),
    Denial("parts", (0,), 0, EDITS), Denial("differs", (0,), 0, EDITS), Denial("stands"), Copies, Stands, Lets,
    unittest.mock.ANY, type("Stands", (), {})(), type("Lets", (), {})(), type("Copies", (), {"numbers": (4, 3)})(),
    type("GoesRound", (), {"number": 0, "start": 0})(), type("Parts", (), {"row": (0,), "start": 0, "edits": EDITS})(),
    type("Differs", (), {"row": (0,), "start": 0, "edits": [("changed", 12, "b"), ("changed", 13, "b")]})(),
]


class MoreCopies(Copies):
    pass


class MoreStands(Stands):
    pass


class MoreLets(Lets):
    pass


class MoreRound(GoesRound):
    pass


class MoreParts(Parts):
    pass


class MoreDiffers(Differs):
    pass


def are_edits(value):
    return all(isinstance(edit, (list, tuple)) for edit in value)


class ShowsCopies(unittest.TestCase):
    def test_all_papers_of_small_machines(self):
        drawn = random.Random(81)
        for _ in range(60):
            deeds = drawn_deeds(drawn, 2, drawn.randint(1, 3))
            machine = Machine(TINY, deeds)
            numbers = [slow_settles(deed) for deed in deeds]
            for many in (1, 4):
                for one in range(2 * many, 2 * many + 4):
                    for two in range(2 * many, 2 * many + 4):
                        wanted = [one - 2 * many, two - 2 * many] == numbers
                        self.assertIs(shows_copies(machine, many, Copies([one, two])), wanted)
                for number in range(-1, 3):
                    for start in range(-1, 4):
                        wanted = number in (0, 1) and start in range(len(deeds[0]))
                        wanted = wanted and slow_leads_back(deeds[number], start)
                        self.assertIs(shows_copies(machine, many, GoesRound(number, start)), wanted)
                self.assertIs(shows_copies(machine, many, copies_for(machine, many)), True)

    def test_papers_bent_in_one_place(self):
        self.assertIs(shows_copies(COUNTER, 1, Copies((4, 3))), True)
        for numbers in (
            (4, 4), (5, 3), (4,), (4, 3, 3), (), (4, 3.0), (4.0, 3), (4, None), (4, "3"), (4, True), 4, None, (3, 4), ((4, 3),),
            (4, 2), "43", {4: 3}, (10**45, 3), (-4, 3),
        ):
            self.assertIs(shows_copies(COUNTER, 1, Copies(numbers)), False, numbers)
        self.assertIs(shows_copies(COUNTER, 2, Copies((4, 3))), False)
        self.assertIs(shows_copies(SWITCH, 1, Copies((3, 3))), False)
        for number, start in (
            (0, 2), (0, -1), (1, 0), (2, 0), (-2, 0), (False, 0), (0, False), (0, True), (None, 0), (0, None), (0.0, 0),
            (0, "0"), ((0,), 0), (0, (0,)), ({}, 0), (0, {}), (10**45, 0), (0, 10**45),
        ):
            self.assertIs(shows_copies(SWITCH, 1, GoesRound(number, start)), False, (number, start))
        self.assertIs(shows_copies(SWITCH, 1, GoesRound(0, 0)), True)

    def test_any_word_that_goes_round_and_any_start_on_its_round(self):
        machine = Machine(TINY, [[1, 0, 0, 3], [1, 2, 1, 3]])
        right = [(0, 0), (0, 1), (1, 1), (1, 2)]
        for number in (0, 1):
            for start in range(4):
                self.assertIs(shows_copies(machine, 3, GoesRound(number, start)), (number, start) in right)

    def test_values_that_are_no_such_papers(self):
        for value in (*OTHERS, MoreCopies([4, 3]), MoreRound(0, 0), Stands(), Lets(), Parts([0], 0, EDITS), Differs([0], 0, EDITS)):
            self.assertIs(shows_copies(COUNTER, 1, value), False)
            self.assertIs(shows_copies(SWITCH, 1, value), False)

    def test_errors_come_whatever_the_value(self):
        for value in (None, Copies([4, 3]), GoesRound(0, 0)):
            for machine in NO_MACHINES:
                self.assertEqual(raised(shows_copies, machine, 0, value), ("BadMachine", "machine"))
            for many in (0, 5, -1, *NO_INTEGERS):
                self.assertEqual(raised(shows_copies, value=value, many=many, machine=COUNTER), ("BadNumber", "many"))


class ShowsText(unittest.TestCase):
    def test_what_the_function_returns_is_right(self):
        drawn = random.Random(82)
        for _ in range(150):
            words = drawn.choice([["aaaa", "bbbb"], ["abcde"], ["a"]])
            deeds = drawn_deeds(drawn, len(words), drawn.randint(1, 4))
            many = drawn.randint(1, 3)
            copies = [drawn.randint(2 * many + 1, 12) for _ in words]
            machine = Machine(Book(words), deeds)
            told = judged_text(machine, copies, many)
            self.assertIs(shows_text(machine, copies, many, told), True)
            self.assertIs(shows_text(machine, copies, many, Stands()), bool(told))

    def test_other_right_papers(self):
        for machine, copies, many, row, start, edits in (
            (COUNTER, [3, 3], 1, [0], 0, [("lost", 2)]), (COUNTER, (3, 3), 1, (1, 0), 2, [["lost", 11]]),
            (COUNTER, [3, 3], 1, [1] * 59 + [0], 2, [("lost", 9 * 59 + 2)]), (SWITCH, [12, 12], 1, [0, 0], 0, [("lost", 0)]),
            (SWITCH, [12, 12], 1, [0], 1, [("put", 1, " ")]),
        ):
            words, deeds = machine.book.words, machine.deeds
            self.assertTrue(is_parting(words, deeds, copies, many, row, start, edits))
            self.assertIs(shows_text(machine, copies, many, Parts(row, start, edits)), True)

    def test_drawn_papers_against_the_words_of_the_document(self):
        drawn = random.Random(83)
        seen = []
        for _ in range(600):
            words = drawn.choice([["aa", "bb"], ["a"], ["ab", "ca"]])
            deeds = drawn_deeds(drawn, len(words), drawn.randint(2, 4))
            copies = [drawn.randint(3, 4) for _ in words]
            row = drawn.choices(range(len(words)), k=drawn.randint(1, 3))
            text, edits = slow_spelled(words, row, copies), []
            for _ in range(drawn.choice((1, 1, 1, 0, 2))):
                edits.append(drawn.choice(all_edits(text, "ab ")))
                text = slow_left(text, edits[-1])
            start = drawn.randrange(len(deeds[0]))
            seen.append(is_parting(words, deeds, copies, 1, row, start, edits))
            told = shows_text(Machine(Book(words), deeds), copies, 1, Parts(row, start, edits))
            self.assertIs(told, seen[-1], (words, deeds, row, start, edits))
        self.assertGreater(seen.count(True), 40)
        self.assertGreater(seen.count(False), 40)

    def test_papers_bent_in_one_place(self):
        seen = []
        for machine, copies, many in ((COUNTER, [3, 3], 1), (Machine(Book(["aaa", "bbb"]), [chain(4), [0] * 4]), [5, 5], 2)):
            words, deeds = machine.book.words, machine.deeds
            told = judged_text(machine, copies, many)
            for edits in bent_in_one_place(told.edits):
                wanted = are_edits(edits) and is_parting(words, deeds, copies, many, told.row, told.start, edits)
                self.assertIs(shows_text(machine, copies, many, Parts(told.row, told.start, edits)), wanted, edits)
                seen.append(wanted)
            for start in (-1, 1, 2, 3, 4, 10**45):
                wanted = is_parting(words, deeds, copies, many, told.row, start, told.edits)
                self.assertIs(shows_text(machine, copies, many, Parts(told.row, start, told.edits)), wanted, start)
            for row in ((), (1,), (0, 0), (1, 0), (0, 1), (2,), (-1,), (0,) * 60, (0,) * 61):
                wanted = is_parting(words, deeds, copies, many, row, told.start, told.edits)
                self.assertIs(shows_text(machine, copies, many, Parts(row, told.start, told.edits)), wanted, row)
        self.assertGreater(seen.count(True), 3)

    def test_wrong_parts(self):
        for row, start, edits in (
            ([], 0, [("put", 0, "a")]), ([False], 0, EDITS), ([0], False, EDITS), ([0], None, EDITS), ([0], 0.0, EDITS),
            ([0], "0", EDITS), (None, 0, EDITS), (0, 0, EDITS), ("0", 0, EDITS), ([None], 0, EDITS), ([[0]], 0, EDITS),
            ([0], 0, None), ([0], 0, "lost"), ([0], 0, ("lost", 2)), ([0], 0, [("lost", True)]), ([0], 0, [("lost", 8)]),
            ([0], 0, [("lost", -6)]), ([0], 0, [("changed", 2, " ")]), ([0], 0, [{}]), ([0], {}, EDITS), ({}, 0, EDITS),
            ([0], 3, EDITS), ([0], -1, EDITS), ([0] * 61, 0, EDITS), ([0], 0, []), ([0], 0, EDITS + [("put", 0, "x")]),
            ([0], [0], EDITS), ([0.0], 0, EDITS), ([0], 1, EDITS), ([0], 2, EDITS), ([1], 0, EDITS),
        ):
            self.assertIs(shows_text(COUNTER, [3, 3], 1, Parts(row, start, edits)), False, (row, start, edits))

    def test_rows_of_sixty_words_and_one_more(self):
        machine = Machine(TINY, [[1, 2, 2], [0, 1, 2]])
        for row, wanted in (([0] + [1] * 59, True), ([0] + [1] * 60, False), ([1] * 59 + [0], True), ([1] * 60 + [0], False)):
            edits = [("lost", 9 * row.index(0) + 2)]
            self.assertIs(shows_text(machine, [3, 3], 1, Parts(row, 0, edits)), wanted)

    def test_values_that_are_no_such_papers(self):
        for value in (
            *OTHERS, MoreStands(), MoreParts([0], 0, EDITS), Lets(), Differs([0], 0, EDITS), Copies([3, 3]), GoesRound(0, 0),
            Parts(Parts([0], 0, EDITS), 0, EDITS),
        ):
            self.assertIs(shows_text(COUNTER, [3, 3], 1, value), False)
            self.assertIs(shows_text(COUNTER, [4, 3], 1, value), False)

    def test_errors_come_whatever_the_value(self):
        for value in (None, Stands(), Parts([0], 0, EDITS), Parts(None, None, None)):
            for machine in NO_MACHINES:
                self.assertEqual(raised(shows_text, machine, None, 0, value), ("BadMachine", "machine"))
            for copies in ([3], [3, 13], [0, 3], 3, None, [3, True]):
                self.assertEqual(raised(shows_text, COUNTER, copies, 0, value), ("BadNumber", "copies"))
            for many in (0, 4, *NO_INTEGERS):
                self.assertEqual(raised(shows_text, COUNTER, [1, 1], many, value), ("BadNumber", "many"))
            self.assertEqual(raised(shows_text, LATCH, [4, 5], 2, value), ("Misfit", "copies"))
            self.assertEqual(raised(shows_text, value=value, many=2, copies=[5, 5], machine=LATCH), ("Misfit", "price"))


class ShowsMachine(unittest.TestCase):
    def test_what_the_function_returns_is_right(self):
        seen = set()
        for words, deeds in any_once(60, "ab", 4, 3, 3, 84):
            machine = Machine(Book(words), deeds)
            for many in (1, 2):
                told = judged_machine(machine, many)
                self.assertIs(shows_machine(machine, many, told), True)
                self.assertIs(shows_machine(machine, many, Lets()), bool(told))
                seen.add(bool(told))
        self.assertEqual(seen, {True, False})

    def test_other_right_papers(self):
        for row, start, edits in (
            ([0], 0, [("changed", 12, "b"), ("changed", 13, "b")]), ((0,), 1, [["changed", 13, "b"], ["changed", 12, "b"]]),
            ([1, 0], 0, [("changed", 28, "b"), ("changed", 27, "b")]), ([1], 0, [("changed", 12, "a"), ("changed", 13, "a")]),
            ([0] * 60, 0, [("changed", 15 * 60 - 2, "b"), ("changed", 15 * 60 - 3, "b")]),
        ):
            self.assertTrue(is_differing(TINY.words, LATCH.deeds, 2, row, start, edits))
            self.assertIs(shows_machine(LATCH, 2, Differs(row, start, edits)), True)
        row = [0] * 61
        edits = [("changed", 15 * 61 - 2, "b"), ("changed", 15 * 61 - 3, "b")]
        self.assertIs(shows_machine(LATCH, 2, Differs(row, 0, edits)), False)

    def test_the_end_is_that_of_the_row_not_of_its_text(self):
        # Both are the same, as twice is once; so each paper of a changed end is right.
        self.assertIs(shows_machine(LATCH, 1, Differs([0], 0, [("lost", 2)])), False)
        self.assertIs(shows_machine(LATCH, 2, Differs([0], 0, [("lost", 2), ("lost", 6)])), False)

    def test_every_edit_of_drawn_rows_against_the_words_of_the_document(self):
        drawn = random.Random(85)
        seen = []
        for words, deeds in any_once(150, "ab", 3, 2, 3, 86):
            row = drawn.choices(range(len(words)), k=drawn.randint(1, 2))
            for edit in all_edits(slow_spelled(words, row, [3] * len(words)), "ab "):
                for start in range(len(deeds[0])):
                    seen.append(is_differing(words, deeds, 1, row, start, [edit]))
                    told = shows_machine(Machine(Book(words), deeds), 1, Differs(row, start, [edit]))
                    self.assertIs(told, seen[-1], (words, deeds, row, start, edit))
        self.assertGreater(seen.count(True), 20)
        self.assertGreater(seen.count(False), 500)

    def test_papers_bent_in_one_place(self):
        words, deeds = TINY.words, LATCH.deeds
        told = judged_machine(LATCH, 2)
        for edits in bent_in_one_place(told.edits):
            wanted = are_edits(edits) and is_differing(words, deeds, 2, told.row, told.start, edits)
            self.assertIs(shows_machine(LATCH, 2, Differs(told.row, told.start, edits)), wanted, edits)
        for start in (-1, 0, 1, 2, 10**45):
            wanted = is_differing(words, deeds, 2, told.row, start, told.edits)
            self.assertIs(shows_machine(LATCH, 2, Differs(told.row, start, told.edits)), wanted)
        for row in ((), (1,), (0, 0), (1, 0), (0, 1), (2,), (-1,), (0,) * 60, (0,) * 61):
            wanted = is_differing(words, deeds, 2, row, told.start, told.edits)
            self.assertIs(shows_machine(LATCH, 2, Differs(row, told.start, told.edits)), wanted)

    def test_wrong_parts(self):
        edits = [("changed", 12, "b"), ("changed", 13, "b")]
        self.assertIs(shows_machine(LATCH, 2, Differs([0], 0, edits)), True)
        for row, start, damage in (
            ([False], 0, edits), ([0], False, edits), ([0], True, edits), ([0], None, edits), ([0], 0.0, edits),
            ([], 0, edits), ([], 0, [("put", 0, "a"), ("put", 1, "a")]), (None, 0, edits), ([0], 0, None), ([0], 0, edits[:1]),
            ([0], 0, edits + [("put", 0, "x")]), ([0], 2, edits), ([0], -1, edits), ([2], 0, edits), ([0] * 61, 0, edits),
            ([0], 0, [("changed", 12, "b"), ("changed", 12, "b")]), ([0], 0, [("lost", 14), ("lost", 13)]),
            ([0], 0, [("changed", 12, "b"), ("changed", True, "b")]), ([0], 0, [("changed", 12, "b"), None]), ({}, 0, edits),
            ([0], {}, edits), ([0], 0, {}), ("0", 0, edits),
        ):
            self.assertIs(shows_machine(LATCH, 2, Differs(row, start, damage)), False, (row, start, damage))

    def test_values_that_are_no_such_papers(self):
        edits = [("changed", 12, "b"), ("changed", 13, "b")]
        for value in (
            *OTHERS, MoreLets(), MoreDiffers([0], 0, edits), Stands(), Parts([0], 0, edits), Copies([3, 3]), GoesRound(0, 0),
            Differs(Differs([0], 0, edits), 0, edits),
        ):
            self.assertIs(shows_machine(LATCH, 2, value), False)
            self.assertIs(shows_machine(LATCH, 1, value), False)

    def test_errors_come_whatever_the_value(self):
        for value in (None, Lets(), Differs([0], 0, EDITS), Differs(None, None, None)):
            for machine in NO_MACHINES:
                self.assertEqual(raised(shows_machine, machine, 0, value), ("BadMachine", "machine"))
            for many in (0, 4, *NO_INTEGERS):
                self.assertEqual(raised(shows_machine, COUNTER, many, value), ("BadNumber", "many"))
            for machine in (COUNTER, SWITCH):
                self.assertEqual(raised(shows_machine, value=value, many=3, machine=machine), ("Misfit", "deeds"))
