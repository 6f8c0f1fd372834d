import unittest
import unittest.mock

from anyletter.papers import Denial, Paper, fixed
from anyletter.prices import Alone, Strange
from anyletter.ways import Ways


class Fixed(unittest.TestCase):
    def test_lists_become_tuples_all_the_way_in(self):
        self.assertEqual(repr(fixed([1, [2, ([3, [], ()], "x")]])), repr((1, (2, ((3, (), ()), "x")))))
        self.assertEqual(repr(fixed(())), "()")
        self.assertEqual(repr(fixed(([1],))), "((1,),)")

    def test_other_values_stay(self):
        held = object()
        for value in (1, True, None, "[1]", "", b"[]", 10**45, held, {"a": [1]}, {1, 2}, 1.5):
            self.assertIs(fixed(value), value)
            self.assertIs(fixed([value])[0], value)

    def test_what_is_passed_does_not_change(self):
        value = [1, [2, [3]]]
        fixed(value=value)
        self.assertEqual(value, [1, [2, [3]]])

    def test_thirty_lists_deep(self):
        value, wanted = [], ()
        for _ in range(29):
            value, wanted = [value], (wanted,)
        self.assertEqual(fixed(value), wanted)


class Papers(unittest.TestCase):
    def test_word_and_parts(self):
        for made in (Paper("note", [1, [2]], "x", True), Denial("note", [1, [2]], "x", True)):
            self.assertEqual(made.word, "note")
            self.assertEqual(repr(made.parts), repr(((1, (2,)), "x", True)))
        self.assertEqual(Paper(word="note").parts, ())
        self.assertEqual(Denial(word="no").word, "no")

    def test_any_values(self):
        held = object()
        made = Paper(None, held, {}, None, [held])
        self.assertIsNone(made.word)
        self.assertIs(made.parts[0], held)
        self.assertEqual(made.parts[1:], ({}, None, (held,)))

    def test_what_is_passed_is_copied(self):
        rows = [[1]]
        made = Paper("note", rows)
        rows[0].append(2)
        rows.append(3)
        self.assertEqual(made.parts, (((1,),),))

    def test_truth(self):
        for made in (Paper("a"), Paper("", 0), Paper("denial"), Ways([]), Strange([], [], 0)):
            self.assertIs(bool(made), True)
        for made in (Denial("a"), Denial("paper", 1), Alone()):
            self.assertIs(bool(made), False)

    def test_classes_stand_below_one_another(self):
        self.assertTrue(issubclass(Denial, Paper))
        self.assertTrue(issubclass(Ways, Paper) and issubclass(Strange, Paper) and issubclass(Alone, Denial))
        self.assertFalse(issubclass(Ways, Denial) or issubclass(Strange, Denial))

    def test_equal_papers(self):
        for one, other in (
            (Paper("note", [1, (2, [3])]), Paper("note", (1, [2, (3,)]))),
            (Paper("note"), Paper(word="note")),
            (Paper("note", 1), Paper("note", True)),
            (Denial("no", "x"), Denial("no", "x")),
            (Ways([["lost", 0]]), Ways(edits=(("lost", 0),))),
            (Ways([("lost", 0)]), Ways([("lost", False)])),
            (Ways("anything"), Ways("anything")),
            (Strange([0], [], 1), Strange(made=1, edits=(), row=(0,))),
            (Alone(), Alone()),
        ):
            self.assertIs(one == other, True)
            self.assertIs(other == one, True)
            self.assertIs(one != other, False)

    def test_unlike_papers(self):
        for one, other in (
            (Paper("note", 1), Paper("note", 2)),
            (Paper("note", 1), Paper("note", 1, 1)),
            (Paper("note", 1), Paper("note", (1,))),
            (Paper("note"), Paper("nota")),
            (Paper("note", "1"), Paper("note", 1)),
            (Paper("no"), Denial("no")),
            (Paper("ways", ()), Ways(())),
            (Denial("alone"), Alone()),
            (Ways([("lost", 0)]), Ways([("lost", 1)])),
            (Ways(()), Strange((), (), ())),
            (Paper("note", 1), ("note", 1)),
            (Paper("note", 1), "note"),
            (Paper("note", 1), (1,)),
            (Paper("note"), None),
            (Alone(), False),
            (Paper("note"), unittest.mock.ANY),
        ):
            self.assertIs(one == other, False)
            self.assertIs(one != other, True)
            if other is not unittest.mock.ANY:
                self.assertIs(other == one, False)

    def test_a_class_below_another_one_is_another_one(self):
        class Below(Ways):
            pass

        self.assertNotEqual(Below([]), Ways([]))
        self.assertNotEqual(Ways([]), Below([]))
        self.assertEqual(Below([]), Below([]))

    def test_parts_stand_in_attributes(self):
        self.assertEqual((Ways([[1]]).word, Ways([[1]]).parts, Ways([[1]]).edits), ("ways", (((1,),),), ((1,),)))
        told = Strange([0, [1]], {"a": 1}, None)
        self.assertEqual((told.row, told.edits, told.made), ((0, (1,)), {"a": 1}, None))
        self.assertEqual((told.word, told.parts), ("strange", (told.row, told.edits, told.made)))
        self.assertEqual((Alone().word, Alone().parts), ("alone", ()))


