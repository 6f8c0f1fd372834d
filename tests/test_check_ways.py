import unittest
import unittest.mock

from anyletter.check_ways import shows_ways
from anyletter.papers import Denial, Paper
from anyletter.prices import Alone, Strange
from anyletter.ways import Ways, least_edits
from tests.support import NO_LISTS, NO_TEXTS, all_edits, all_texts, raised, slow_distance, slow_left


def bent_in_one_place(edits):
    """Lists of edits that are these ones but for one place."""
    edits = list(edits)
    yield edits + [("put", 0, "x")]
    yield edits + [("put", 0, "x"), ("lost", 0)]
    yield [("put", 0, "x"), ("lost", 0)] + edits
    for at, edit in enumerate(edits):
        yield edits[:at] + edits[at + 1:]
        yield edits[:at] + [edit] + edits[at:]
        yield edits[:at] + edits[at + 1:at + 2] + [edit] + edits[at + 2:]
        others = [("lost", edit[1]), ("put", edit[1], "a"), ("changed", edit[1], "x"), (edit[0],), edit + ("a",), None]
        others += [(edit[0], place) + edit[2:] for place in (edit[1] - 1, edit[1] + 1, -1, 10**45, str(edit[1]))]
        others += [edit[:2] + (sign,) for sign in ("x", "", "aa", " ", "A", 1)] + [edit[0], list(edit), {}]
        others += [("Lost",) + edit[1:], (["lost"],) + edit[1:]]
        for other in others:
            yield edits[:at] + [other] + edits[at + 1:]


def is_least_way(one, other, edits):
    """Whether these edits are a least way, by the words of the document."""
    text = one
    for edit in edits:
        if not isinstance(edit, (list, tuple)) or tuple(edit) not in all_edits(text, "abcdefghijklmnopqrstuvwxyz "):
            return False
        text = slow_left(text, edit)
    return text == other and len(edits) == slow_distance(one, other)


class ShowsWays(unittest.TestCase):
    def test_what_the_function_returns_is_right(self):
        for one in all_texts("ab ", 3):
            for other in all_texts("ab", 3):
                self.assertIs(shows_ways(one, other, least_edits(one, other)), True)

    def test_other_least_ways_are_right(self):
        for one, other, edits in (
            ("ab", "ba", [("lost", 0), ("put", 1, "a")]), ("ab", "ba", [("put", 0, "b"), ("lost", 2)]),
            ("ab", "ba", [("changed", 0, "b"), ("changed", 1, "a")]), ("ab", "ba", [["changed", 1, "a"], ["changed", 0, "b"]]),
            ("", "ab", [("put", 0, "b"), ("put", 0, "a")]), ("aaa", "a", [("lost", 2), ("lost", 0)]), ("", "", []),
        ):
            self.assertIs(shows_ways(one, other, Ways(edits)), True)
            self.assertIs(shows_ways(one, other, Ways(tuple(edits))), True)

    def test_all_edit_pairs_against_the_words_of_the_document(self):
        for one, other in (("ab", "ba"), ("a b", "b"), ("", "ba")):
            for first in all_edits(one, "ab "):
                for second in all_edits(slow_left(one, first), "ab "):
                    edits = [first, second]
                    self.assertIs(shows_ways(one, other, Ways(edits)), is_least_way(one, other, edits))

    def test_ways_bent_in_one_place(self):
        seen = set()
        for one, other in (("ab ab", "ba"), ("thing", "no thing"), ("abc", "xbz"), ("", "a"), ("ab", "ab")):
            for edits in bent_in_one_place(least_edits(one, other).edits):
                wanted = is_least_way(one, other, edits)
                self.assertIs(shows_ways(one, other, Ways(edits)), wanted, (one, other, edits))
                seen.add(wanted)
        self.assertEqual(seen, {True, False})

    def test_true_and_false_are_no_places(self):
        self.assertIs(shows_ways("ab", "a", Ways([("lost", 1)])), True)
        self.assertIs(shows_ways("ab", "a", Ways([("lost", True)])), False)
        self.assertIs(shows_ways("ab", "b", Ways([("lost", False)])), False)

    def test_values_that_are_no_ways(self):
        class Below(Ways):
            pass

        right = [("lost", 1)]
        for value in (
            *NO_LISTS, right, tuple(right), Paper("ways", right), Denial("ways", right), Alone(), Strange([0], right, 1),
            Below(right), Ways, Ways(Ways(right)), type("Ways", (), {"edits": (("lost", 1),)})(), unittest.mock.ANY,
            type("Ways", (Paper,), {"__init__": lambda self, edits: None, "edits": (("lost", 1),)})(right), *[Ways(value) for value in NO_LISTS],
        ):
            self.assertIs(shows_ways("ab", "a", value), False)
        self.assertIs(shows_ways("", "", Ways("")), False)
        self.assertIs(shows_ways("", "", Ways(None)), False)
        self.assertIs(shows_ways("", "", Ways({})), False)

    def test_long_ways(self):
        edits = [("changed", at, "b") for at in range(300)]
        self.assertIs(shows_ways("a" * 300, "b" * 300, Ways(edits)), True)
        self.assertIs(shows_ways("a" * 300, "b" * 300, Ways(edits[1:])), False)
        self.assertIs(shows_ways("a" * 300, "b" * 300, Ways(edits + edits)), False)

    def test_errors_come_whatever_the_value(self):
        for paper in (None, Ways([])):
            for value in NO_TEXTS:
                self.assertEqual(raised(shows_ways, value, None, paper), ("BadText", "one"))
                self.assertEqual(raised(shows_ways, "a" * 301, value, paper), ("BadText", "other"))
            self.assertEqual(raised(shows_ways, "", "a" * 301, paper), ("TooMany", "signs", 300))
            self.assertEqual(raised(shows_ways, value=paper, other="", one="a" * 301), ("TooMany", "signs", 300))
        self.assertIs(shows_ways(value=Ways([]), other="a", one="a"), True)
