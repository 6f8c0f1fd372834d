import random
import time
import unittest

from anyletter.edits import texts_behind
from anyletter.ways import Ways, around, edits_between, least_edits
from tests.support import NO_INTEGERS, NO_TEXTS, all_edits, all_texts, raised, slow_distance, slow_left

MUCH = "a" * 300


def reached_from(text, signs, many):
    """All texts to which at most many edits lead, with how many the fewest are."""
    found = {text: 0}
    for step in range(1, many + 1):
        for known in [known for known in found if found[known] == step - 1]:
            for edit in all_edits(known, signs):
                found.setdefault(slow_left(known, edit), step)
    return found


class Least(unittest.TestCase):
    def check_way(self, one, other, least):
        told = least_edits(one, other)
        self.assertIsInstance(told, Ways)
        self.assertEqual((told.word, told.parts), ("ways", (told.edits,)))
        self.assertIsInstance(told.edits, tuple)
        self.assertEqual(len(told.edits), least)
        text = one
        for edit in told.edits:
            self.assertIsInstance(edit, tuple)
            text = slow_left(text, edit)
        self.assertEqual(text, other)
        self.assertEqual(texts_behind(one, told.edits)[-1], other)
        self.assertEqual(edits_between(one, other), least)

    def test_small_texts_against_all_edits_tried(self):
        texts = all_texts("ab ", 3)
        for one in texts:
            reached = reached_from(one, "ab ", 3)
            for other in texts:
                self.check_way(one, other, reached[other])

    def test_texts_against_the_slow_reckoning(self):
        drawn = random.Random(5)
        for _ in range(200):
            one, other = ("".join(drawn.choice("abc ") for _ in range(drawn.randrange(12))) for _ in "12")
            self.check_way(one, other, slow_distance(one, other))

    def test_empty_and_like_texts(self):
        self.check_way("", "", 0)
        self.check_way("", " a ", 3)
        self.check_way("ab c", "", 4)
        self.check_way(MUCH, MUCH, 0)
        self.assertEqual(least_edits("ab", "ab"), Ways(()))

    def test_three_hundred_signs(self):
        self.check_way(MUCH, "", 300)
        self.check_way("", MUCH, 300)
        self.check_way(MUCH, "b" * 300, 300)
        self.check_way("ab" * 150, "ba" * 150, 2)
        self.check_way("ab " * 100, "ba " * 100, 200)
        self.check_way("a" * 150 + "b" * 150, "b" * 150 + "a" * 150, 300)
        self.check_way(MUCH, " " + MUCH[2:] + "b", 2)

    def test_three_hundred_signs_in_a_short_time(self):
        started = time.perf_counter()
        for _ in range(5):
            least_edits("abc" * 100, "cb a" * 75)
        self.assertLess(time.perf_counter() - started, 15)

    def test_one_sign_more_is_too_many(self):
        for call in (least_edits, edits_between):
            self.assertIsNone(raised(call, MUCH, MUCH))
            for one, other in ((MUCH + "a", ""), ("", MUCH + "a"), (MUCH + " ", MUCH + " "), ("a" * 200000, "a")):
                self.assertEqual(raised(call, one, other), ("TooMany", "signs", 300))

    def test_ways_go_back_and_by_way_of_others(self):
        texts = ["", "ab", "ba ", " abba", "b  a", "aabb"]
        for one in texts:
            for other in texts:
                self.assertEqual(edits_between(one, other), edits_between(other, one))
                for third in texts:
                    self.assertLessEqual(
                        edits_between(one, other), edits_between(one, third) + edits_between(third, other)
                    )

    def test_what_is_no_text_and_the_order(self):
        for call in (least_edits, edits_between):
            for value in NO_TEXTS:
                for other in ("ab", None, MUCH + "a", value):
                    self.assertEqual(raised(call, value, other), ("BadText", "one"))
                    self.assertEqual(raised(call, other=other, one=value), ("BadText", "one"))
                for one in ("ab", MUCH + "a"):
                    self.assertEqual(raised(call, one, value), ("BadText", "other"))

    def test_equal_calls_return_equal_values(self):
        self.assertEqual(least_edits("abba ab", "baab b"), least_edits(other="baab b", one="abba ab"))
        self.assertEqual(edits_between(other="ab", one="a"), 1)


class Around(unittest.TestCase):
    def test_against_all_edits_tried(self):
        for text in all_texts("ab ", 3) + ["ababab"]:
            for signs in ("a", " ", "ba", "z a"):
                for many in range(3):
                    self.assertEqual(around(text, signs, many), tuple(sorted(reached_from(text, signs, many))))

    def test_signs_of_the_text_need_not_be_among_the_signs(self):
        self.assertEqual(around("xy", "a", 1), ("a" + "xy", "ay", "x", "xa", "xay", "xy", "xya", "y"))

    def test_twelve_signs_and_thirteen(self):
        told = around("abcdefghijkl", "wxyz", 2)
        self.assertEqual(list(told), sorted(set(told)))
        self.assertEqual(set(told), set(reached_from("abcdefghijkl", "wxyz", 2)))
        self.assertEqual(around("abcdefghijkl", "z", 0), ("abcdefghijkl",))
        self.assertEqual(raised(around, "abcdefghijklm", "z", 0), ("TooMany", "signs", 12))

    def test_bounds_of_many(self):
        for many in (0, 1, 2):
            self.assertIsNone(raised(around, "a", "b", many))
        for many in (-1, 3, 10**45, *NO_INTEGERS):
            self.assertEqual(raised(around, "a", "b", many), ("BadNumber", "many"))

    def test_signs(self):
        for signs in ("a", "abcd", " abc", "z"):
            self.assertIsNone(raised(around, "a", signs, 1))
        for signs in ("", "aa", "aba", "  ", "abcde", "A", "a1", "a\n", ("a",), ["a", "b"], *NO_TEXTS):
            self.assertEqual(raised(around, "a", signs, 1), ("BadText", "signs"))

    def test_the_order_of_errors(self):
        for value in NO_TEXTS:
            self.assertEqual(raised(around, value, "aa", 3), ("BadText", "text"))
        self.assertEqual(raised(around, "a" * 13, "aa", 3), ("BadText", "signs"))
        self.assertEqual(raised(around, "a" * 13, "a", True), ("BadNumber", "many"))
        self.assertEqual(raised(around, many=2, signs="a", text="a" * 13), ("TooMany", "signs", 12))
