import unittest

from anyletter.checks import are_integers, is_integer, is_sign, is_text, is_within, is_word
from tests.support import NO_INTEGERS, NO_LISTS, NO_TEXTS

LETTERS = "abcdefghijklmnopqrstuvwxyz"
# Small letters, digits and blanks of other kinds, which Python takes for letters, digits, blanks too.
STRANGE_SIGNS = ["\u00e9", "\u00df", "\u0430", "\u00aa", "\u00b2", "\u00a0", "\t", "\n", "\r", "\x00", "A", "0", "_", "-", "`", "{", "\ud800"]


class Checks(unittest.TestCase):
    def is_true(self, value):
        self.assertIs(value, True)

    def is_false(self, value):
        self.assertIs(value, False)

    def test_integers(self):
        for value in (0, 1, -1, 10**45, -(10**45), 10**5000):
            self.is_true(is_integer(value))
        for value in NO_INTEGERS:
            self.is_false(is_integer(value))

    def test_within_bounds(self):
        for value, least, most in ((0, 0, 0), (3, None, 3), (3, 3, None), (-7, None, None), (10**45, 0, None), (2, 1, 3)):
            self.is_true(is_within(value, least, most))
        for value, least, most in ((4, None, 3), (2, 3, None), (-1, 0, 5), (6, 0, 5), (2, 3, 1), (10**45, 0, 10**44)):
            self.is_false(is_within(value, least, most))

    def test_no_integer_is_within_any_bounds(self):
        for value in NO_INTEGERS:
            for least, most in ((None, None), (0, None), (None, 1), (0, 1)):
                self.is_false(is_within(value, least, most))

    def test_lists_of_integers(self):
        for value in ([], (), [0], (1, -2), [10**45] * 3):
            self.is_true(are_integers(value))
        for value in (*NO_LISTS, [1, True], (False,), [[1]], [1, "1"], (None,), {1: 2}, {1}, range(3), iter([1])):
            self.is_false(are_integers(value))

    def test_words(self):
        for value in ("a", "z", "abc", LETTERS[:12], LETTERS[14:]):
            self.is_true(is_word(value))
        for value in (*NO_TEXTS, "", " ", "a b", " a", "a ", "a" * 13, "Abc", "abC", "ab1"):
            self.is_false(is_word(value))
        for sign in STRANGE_SIGNS:
            self.is_false(is_word("a" + sign))
            self.is_false(is_word(sign))

    def test_signs(self):
        for value in LETTERS + " ":
            self.is_true(is_sign(value))
        for value in (*NO_TEXTS, *STRANGE_SIGNS, "", "ab", "  ", " a"):
            self.is_false(is_sign(value))

    def test_texts(self):
        for value in ("", " ", "   ", "a", " ab  c ", LETTERS, "a" * 200000, " " * 200000, "ab " * 66666 + "ab"):
            self.is_true(is_text(value))
        for value in (*NO_TEXTS, " " * 200001, "ab " * 66667, "a" * 300000):
            self.is_false(is_text(value))
        for sign in STRANGE_SIGNS:
            self.is_false(is_text("a b" + sign))
            self.is_false(is_text(sign))
            self.is_false(is_text("a" * 199999 + sign))

    def test_by_name(self):
        self.is_true(is_within(most=5, value=4, least=3))
        self.is_true(is_within(value=4, least=None, most=None))
        for check, right in ((is_integer, 1), (are_integers, [1]), (is_word, "a"), (is_sign, "a"), (is_text, "a")):
            self.is_true(check(value=right))
