import random
import unittest

from anyletter.edits import damaged
from anyletter.marks import marks_of
from tests.support import NO_LISTS, NO_TEXTS, raised
from tests.test_runs import drawn_damage


def slow_marks(text, edits):
    """The lines to show: each sign is an object of its own, and a gap stands ahead of one of them, or of the end."""
    end = {"sign": "", "new": False, "gap": False}
    signs = [{"sign": sign, "new": False, "gap": False} for sign in text] + [end]
    for edit in edits:
        kind, at = edit[0], edit[1]
        if kind == "put":
            signs.insert(at, {"sign": edit[2], "new": True, "gap": False})
        elif kind == "changed":
            signs[at].update(sign=edit[2], new=True)
        else:
            del signs[at]
            signs[at]["gap"] = True
    table = {(False, False): " ", (True, False): "^", (False, True): "_", (True, True): "#"}
    lines = [["", ""]]
    for sign in signs[:-1]:
        if len(lines[-1][0]) == 60:
            lines.append(["", ""])
        lines[-1][0] += sign["sign"]
        lines[-1][1] += table[sign["new"], sign["gap"]]
    if end["gap"]:
        lines[-1][1] += "_"
    return tuple(line for pair in lines for line in pair)


class Marks(unittest.TestCase):
    def test_drawn_damages(self):
        drawn = random.Random(1901)
        for _ in range(800):
            text = "".join(drawn.choices("ab ", k=drawn.choice((1, 2, 5, 58, 59, 60, 61, 62, 119, 120, 121, 130))))
            edits = []
            for _ in range(drawn.randint(0, 12)):
                left = damaged(text, edits)
                if left:
                    edits += drawn_damage(drawn, left, 1)
            self.assertEqual(marks_of(text, edits), slow_marks(text, edits), (text, edits))

    def test_gaps_at_the_end(self):
        for text, edits, lines in (
            ("ab", [("lost", 1)], ("a", " _")), ("ab", [("lost", 1), ("lost", 0)], ("", "_")),
            # What is put at the end later comes ahead of the gap.
            ("ab", [("lost", 1), ("put", 1, "c")], ("ac", " ^_")), ("a", [("lost", 0), ("put", 0, "b"), ("put", 1, "c")], ("bc", "^^_")),
            ("a", [("put", 1, "b"), ("lost", 1)], ("a", " _")), ("a", [("put", 1, "b"), ("lost", 0)], ("b", "#")),
        ):
            self.assertEqual(marks_of(text, edits), lines, (text, edits))

    def test_gaps_ahead_of_signs(self):
        for text, edits, lines in (
            # What is put there later comes ahead of the gap; the gap stays with the sign behind it.
            ("abc", [("lost", 1), ("put", 1, "x")], ("axc", " ^_")), ("abc", [("lost", 1), ("put", 1, "x"), ("put", 1, "y")], ("ayxc", " ^^_")),
            ("abc", [("lost", 1), ("put", 2, "x")], ("acx", " _^")), ("abc", [("lost", 1), ("lost", 1)], ("a", " _")),
            ("abcd", [("lost", 1), ("lost", 1)], ("ad", " _")), ("abcd", [("lost", 2), ("lost", 1)], ("ad", " _")),
            # It goes over when the sign is lost, beyond what was put ahead of that sign.
            ("abcd", [("lost", 1), ("put", 1, "x"), ("lost", 2)], ("axd", " ^_")), ("abcd", [("lost", 0), ("lost", 2)], ("bc", "_ _")),
            ("abc", [("lost", 0), ("lost", 1)], ("b", "__")), ("ab", [("lost", 0), ("lost", 0)], ("", "_")),
            ("abc", [("lost", 1), ("changed", 1, "b")], ("ab", " #")), ("abc", [("changed", 1, "x"), ("lost", 0)], ("xc", "# ")),
        ):
            self.assertEqual(marks_of(text, edits), lines, (text, edits))

    def test_new_signs(self):
        for text, edits, lines in (
            # Whatever becomes of them later: changed back they are new, too.
            ("ab", [("changed", 0, "x"), ("changed", 0, "a")], ("ab", "^ ")), ("ab", [("put", 1, " ")], ("a b", " ^ ")),
            ("ab", [("put", 1, "x"), ("lost", 1)], ("ab", " _")), ("ab", [("lost", 0), ("put", 0, "a")], ("ab", "^_")),
            ("", [("put", 0, "x")], ("x", "^")), ("", [("put", 0, "x"), ("lost", 0)], ("", "_")), ("", [], ("", "")),
        ):
            self.assertEqual(marks_of(text, edits), lines, (text, edits))

    def test_lines_of_60_signs(self):
        for length, lengths in ((0, [0]), (1, [1]), (59, [59]), (60, [60]), (61, [60, 1]), (120, [60, 60]), (121, [60, 60, 1])):
            told = marks_of("a" * length, ())
            self.assertEqual([len(line) for line in told[::2]], lengths)
            self.assertEqual([len(line) for line in told[1::2]], lengths)
            self.assertEqual("".join(told[1::2]), " " * length)
            # A gap at the end is one mark more.
            told = marks_of("a" * (length + 1), [("lost", length)])
            self.assertEqual([len(line) for line in told[::2]], lengths)
            self.assertEqual(told[-1], " " * lengths[-1] + "_")
        self.assertEqual(marks_of("a" * 60, [("put", 60, "b")]), ("a" * 60, " " * 60, "b", "^"))
        self.assertEqual(marks_of("a" * 61, [("lost", 0)])[1], "_" + " " * 59)

    def test_most_signs(self):
        told = marks_of("a" * 200000, [("changed", 199999, "b"), ("lost", 0)])
        self.assertEqual((len(told), told[1][:2], told[-1][-1], told[-2][-1]), (2 * 3334, "_ ", "^", "b"))

    def test_lists_and_tuples(self):
        edits = [["lost", 0], ["put", 1, "x"]]
        self.assertEqual(marks_of("ab", edits), marks_of(edits=(("lost", 0), ("put", 1, "x")), text="ab"))
        self.assertEqual(edits, [["lost", 0], ["put", 1, "x"]])
        self.assertIsInstance(marks_of("ab", edits), tuple)

    def test_errors_in_their_order(self):
        for text in NO_TEXTS:
            self.assertEqual(raised(marks_of, text, None), ("BadText", "text"))
        wrong = [*NO_LISTS, [("lost", 2)], [("put", 3, "a")], [("changed", 0, "a")], [("lost", 0)] * 3, [("lost", 0, "a")], [0]]
        for edits in (*wrong, [("put", 0, "x")] * 13):
            self.assertEqual(raised(marks_of, "ab", edits), ("BadEdits", "edits"))
        self.assertEqual(raised(marks_of, "a" * 200000, [("put", 0, "x")]), ("BadEdits", "edits"))
        self.assertIsNone(raised(marks_of, "ab", [("put", 0, "x")] * 12))
