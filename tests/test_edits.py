import random
import unittest
import unittest.mock

from anyletter.edits import damaged, undone, untouched
from anyletter.texts import items_of
from tests.support import NO_INTEGERS, NO_LISTS, NO_TEXTS, all_edits, all_texts, raised, slow_left

CALLS = (damaged, undone, untouched)
LONGEST = "a" * 200000
BAD_EDITS = ("BadEdits", "edits")

# None of these is an edit that can be done to "ab".
NO_EDITS = [
    *NO_LISTS, (), [], ("lost",), ["put"], ("lost", 0, "a"), ("lost", 0, None), ("put", 0), ("changed", 0),
    ("put", 0, "x", "y"), ("changed", 0, "x", 1), ("lost", 2), ("lost", -1), ("lost", 10**45), ("changed", 2, "x"),
    ("changed", -1, "x"), ("put", 3, "x"), ("put", -1, "x"), ("changed", 0, "a"), ("changed", 1, "b"),
    ("put", 0, "xy"), ("put", 0, ""), ("changed", 0, "X"), ("changed", 0, "\n"), ("put", 0, None), ("put", 0, 1),
    ("put", 0, b"x"), ("put", 0, ["x"]), ("loses", 0), ("Lost", 0), ("", 0), (0, "lost"), (None, 0), (["lost"], 0),
    (b"lost", 0), ("put", "x", 0), (unittest.mock.ANY, 0), ({}, 0), ("lost", [0]), "lost", {"lost": 0, "put": 1},
] + [("lost", at) for at in NO_INTEGERS] + [("changed", at, "x") for at in NO_INTEGERS]


def slow_untouched(text, edits):
    """The numbers of the untouched items, the items standing as letters with their number behind, or None."""
    items = [[list(item), number] for number, item in enumerate(text.split(" "))]
    for kind, at, *sign in edits:
        number = 0
        while at > len(items[number][0]):
            at -= len(items[number][0]) + 1
            number += 1
        letters = items[number][0]
        if kind == "put" and sign == [" "]:
            if at == len(letters):
                items.insert(number + 1, [[], None])
            elif at == 0:
                items.insert(number, [[], None])
            else:
                items[number:number + 1] = [[letters[:at], None], [letters[at:], None]]
        elif kind == "put":
            items[number] = [letters[:at] + sign + letters[at:], None]
        elif at == len(letters):
            middle = sign if kind == "changed" else []
            items[number:number + 2] = [[letters + middle + items[number + 1][0], None]]
        elif sign == [" "]:
            items[number:number + 1] = [[letters[:at], None], [letters[at + 1:], None]]
        else:
            items[number] = [letters[:at] + sign + letters[at + 1:], None]
    return tuple(number for _, number in items if number is not None)


def any_damages(texts, many, times, seed):
    """Texts and damages of so many edits, drawn always alike."""
    drawn = random.Random(seed)
    for _ in range(times):
        text = drawn.choice(texts)
        left, edits = text, []
        for _ in range(many):
            edits.append(drawn.choice(all_edits(left, "ab ")))
            left = slow_left(left, edits[-1])
        yield text, edits, left


class Damages(unittest.TestCase):
    def test_each_edit_does_what_the_table_tells(self):
        for edit, left in (
            (("lost", 0), "bcd"), (("lost", 3), "abc"), (("put", 0, "x"), "xabcd"), (("put", 4, "x"), "abcdx"),
            (("put", 2, " "), "ab cd"), (("changed", 0, "x"), "xbcd"), (("changed", 3, " "), "abc "),
        ):
            self.assertEqual(damaged("abcd", [edit]), left)
            self.assertEqual(damaged("abcd", (list(edit),)), left)

    def test_each_edit_is_done_to_what_the_ones_ahead_leave(self):
        self.assertEqual(damaged("", [("put", 0, "a"), ("put", 1, "b"), ("changed", 0, "b"), ("lost", 1)]), "b")
        self.assertEqual(raised(damaged, "a", [("lost", 0), ("lost", 0)]), BAD_EDITS)
        self.assertEqual(raised(damaged, "", [("changed", 0, "a"), ("put", 0, "b")]), BAD_EDITS)
        self.assertEqual(raised(damaged, "a", [("changed", 0, "b"), ("changed", 0, "b")]), BAD_EDITS)
        self.assertEqual(damaged("a", [("changed", 0, "b"), ("changed", 0, "a")]), "a")

    def test_all_single_edits_of_small_texts(self):
        for text in all_texts("ab ", 4):
            for edit in all_edits(text, "ab "):
                self.assertEqual(damaged(text, [edit]), slow_left(text, edit))
                self.assertEqual(untouched(text, [edit]), slow_untouched(text, [edit]))

    def test_damages_of_several_edits(self):
        texts = all_texts("a ", 5) + ["ab cd ef", "  ab   b a "]
        for many in (2, 3, 12):
            for text, edits, left in any_damages(texts, many, 400, many):
                self.assertEqual(damaged(text, edits), left)
                self.assertEqual(untouched(text, edits), slow_untouched(text, edits))
                self.assertEqual(damaged(left, undone(text, edits)), text)

    def test_undone_goes_back_place_by_place(self):
        self.assertEqual(undone("ab", []), ())
        self.assertEqual(undone("ab", [("lost", 1)]), (("put", 1, "b"),))
        self.assertEqual(undone("ab", [["put", 2, " "]]), (("lost", 2),))
        self.assertEqual(undone("ab", [("changed", 1, " ")]), (("changed", 1, "b"),))
        edits = [("put", 1, "x"), ("lost", 0), ("changed", 1, "c")]
        self.assertEqual(undone("ab", edits), (("changed", 1, "b"), ("put", 0, "a"), ("lost", 1)))
        self.assertEqual(repr(undone("ab", edits)), repr(undone("ab", [list(edit) for edit in edits])))

    def test_untouched_items(self):
        for text, edits, numbers in (
            ("ab cd ef", [], (0, 1, 2)), ("", [], (0,)), ("  ", [], (0, 1, 2)),
            ("ab cd ef", [("lost", 0)], (1, 2)), ("ab cd ef", [("lost", 5)], (0,)),
            ("ab cd ef", [("changed", 2, "x")], (2,)), ("ab cd ef", [("changed", 3, " ")], (0, 2)),
            ("ab cd ef", [("changed", 4, "x")], (0, 2)), ("ab cd ef", [("put", 8, " ")], (0, 1, 2)),
            ("ab cd ef", [("put", 0, " ")], (0, 1, 2)), ("ab cd ef", [("put", 3, "x")], (0, 2)),
            ("ab cd ef", [("put", 4, " ")], (0, 2)), ("ab cd ef", [("put", 8, "x")], (0, 1)),
            ("a  b", [("put", 2, "x")], (0, 2)), ("a  b", [("put", 2, " ")], (0, 1, 2)),
            ("a  b", [("put", 2, " "), ("lost", 1)], (2,)), ("a  b", [("put", 2, " "), ("lost", 3)], (0, 1)),
            ("a  b", [("put", 2, " "), ("lost", 2)], (0, 2)), (" ", [("lost", 0)], ()), ("a ", [("lost", 0)], (1,)),
            ("ab", [("lost", 0), ("put", 0, "a")], ()), ("a b", [("lost", 1), ("put", 1, " ")], ()),
        ):
            self.assertEqual(untouched(text, edits), numbers)
            self.assertIsInstance(untouched(text, edits), tuple)

    def test_untouched_items_are_left_in_their_order(self):
        for text, edits, left in any_damages(["ab a b ba", " a  b", "ab ab ab"], 3, 300, 7):
            rest = iter(items_of(left))
            numbers = untouched(text, edits)
            self.assertTrue(all(items_of(text)[number] in rest for number in numbers))
            self.assertGreaterEqual(len(numbers), len(items_of(text)) - 2 * len(edits))

    def test_twelve_edits_and_thirteen(self):
        for call in CALLS:
            self.assertIsNone(raised(call, "", [("put", 0, "a")] * 12))
            self.assertEqual(raised(call, "", [("put", 0, "a")] * 13), BAD_EDITS)
            self.assertEqual(raised(call, "a", (("put", 0, "a"), ("lost", 0)) * 6 + (("lost", 0),)), BAD_EDITS)

    def test_longest_texts(self):
        self.assertEqual(damaged(LONGEST, [("lost", 199999), ("put", 199999, "b")]), LONGEST[:-1] + "b")
        self.assertEqual(damaged(LONGEST, [("changed", 0, " ")]), " " + LONGEST[1:])
        self.assertEqual(damaged(LONGEST[1:], [("put", 199999, "b")]), LONGEST[1:] + "b")
        self.assertEqual(untouched(" " * 200000, [("lost", 0)]), tuple(range(2, 200001)))
        self.assertEqual(undone(LONGEST, [("lost", 0)]), (("put", 0, "a"),))
        for call in CALLS:
            self.assertEqual(raised(call, LONGEST, [("put", 0, "a")]), BAD_EDITS)
            self.assertEqual(raised(call, LONGEST[1:], [("put", 0, "a"), ("put", 0, "a")]), BAD_EDITS)
            self.assertEqual(raised(call, LONGEST + "a", []), ("BadText", "text"))

    def test_what_is_no_edit(self):
        for call in CALLS:
            for value in NO_EDITS:
                for edits in ([value], (("lost", 1), ("put", 1, "b"), value), [value, ("lost", 0)]):
                    self.assertEqual(raised(call, "ab", edits), BAD_EDITS, value)

    def test_what_is_no_list_of_edits(self):
        for call in CALLS:
            for value in (*NO_LISTS, ("lost", 0), "lost", [[("lost", 0)]]):
                self.assertEqual(raised(call, "ab", value), BAD_EDITS)

    def test_a_text_is_asked_first(self):
        for call in CALLS:
            for value in NO_TEXTS:
                self.assertEqual(raised(call, value, []), ("BadText", "text"))
                self.assertEqual(raised(call, value, None), ("BadText", "text"))
                self.assertEqual(raised(call, edits=[0] * 13, text=value), ("BadText", "text"))

    def test_by_name_and_unchanged(self):
        edits = [["lost", 0], ["put", 0, "x"]]
        self.assertEqual(damaged(edits=edits, text="ab"), "xb")
        self.assertEqual(undone(edits=edits, text="ab"), (("lost", 0), ("put", 0, "a")))
        self.assertEqual(untouched(edits=edits, text="ab c"), (1,))
        self.assertEqual(edits, [["lost", 0], ["put", 0, "x"]])
