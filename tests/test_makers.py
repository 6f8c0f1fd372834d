import random
import time
import unittest

from anyletter.books import Book
from anyletter.makers import grown
from anyletter.prices import price
from tests.support import NO_INTEGERS, NO_LISTS, PLAIN, raised, slow_price
from tests.test_books import FORTY
from tests.test_prices import SMALL, any_books

LETTERS = "abcdefghijklmnopqrstuvwxyz"


def grown_slowly(words, least, cost=slow_price):
    taken = []
    for word in words:
        known = cost([*taken, word])
        if known is None or known >= least:
            taken.append(word)
    return tuple(taken)


def drawn_words(letters, many, length, seed):
    drawn = random.Random(seed)
    words = {}
    while len(words) < many:
        words["".join(drawn.choice(letters) for _ in range(length))] = True
    return list(words)


class Grown(unittest.TestCase):
    def test_small_books_against_the_slow_reckoning(self):
        for words in [*SMALL, *any_books(40, "ab", 5, 4, 21), *any_books(20, "abc", 5, 5, 22)]:
            for least in (1, 2, 3, 4):
                self.assertEqual(grown(words, least).words, grown_slowly(words, least), (words, least))

    def test_longer_lists_against_the_price(self):
        for words in [*any_books(20, "ab", 12, 9, 23), *any_books(20, "abcdef", 14, 12, 24)]:
            for least in (1, 2, 3, 4):
                told = grown(words, least)
                self.assertEqual(told.words, grown_slowly(words, least, lambda taken: price(Book(taken))))

    def test_each_kind_of_triple_keeps_a_word_out(self):
        # Made of the new word, ahead of or behind a taken one; the new word made of one taken one, or of two.
        for words, least, taken in (
            (["defghi", "abcxyz", "cxydef"], 2, 3), (["abcdef", "cxydef", "abcxyz"], 4, 1), (["ab", "abx"], 2, 1),
            (["abx", "ab"], 2, 1), (["abcdef", "uvwxyz", "defuvw"], 4, 2), (["abcdef", "uvwxyz", "defuvw"], 3, 3),
            (["defuvw", "abcdef", "uvwxyz"], 4, 2), (["defuvw", "uvwxyz", "abcdef"], 4, 2),
            (["abcd", "bcda"], 3, 1), (["abcd", "dabc"], 3, 1), (["abcd", "bcda"], 2, 2), (["aa", "bb"], 2, 2), (["aa", "bb"], 3, 1),
        ):
            self.assertEqual(grown(words, least).words, grown_slowly(words, least), (words, least))
            self.assertEqual(len(grown(words, least).words), taken, (words, least))

    def test_just_enough_and_one_more(self):
        for least in (1, 2, 3, 4):
            one, other = "a" * least, "b" * least
            self.assertEqual(grown([one, other], least).words, (one, other))
            if least < 4:
                self.assertEqual(grown([one, other], least + 1).words, (one,))

    def test_a_word_that_is_not_taken_does_not_hinder_others(self):
        self.assertEqual(grown(["aaaa", "aaab", "abbb", "bbbb"], 2).words, ("aaaa", "abbb"))
        self.assertEqual(grown(["abbb", "aaaa", "aaab", "bbbb"], 2).words, ("abbb", "aaaa"))

    def test_one_word_and_lists_of_sixty(self):
        self.assertEqual(grown(["a"], 4), Book(["a"]))
        self.assertEqual(grown(words=("ab", "a"), least=4), Book(["ab"]))
        sixty = drawn_words("ab", 60, 6, 1)
        self.assertEqual(len(sixty), 60)
        self.assertEqual(grown(sixty, 4).words, grown_slowly(sixty, 4, lambda taken: price(Book(taken))))
        self.assertEqual(grown(PLAIN, 4).words, tuple(PLAIN))

    def test_forty_words_taken_and_one_more(self):
        forty = drawn_words(LETTERS, 40, 9, 2)
        self.assertEqual(grown(forty, 4).words, tuple(forty))
        near = [word[:-1] + ("a" if word[-1] != "a" else "b") for word in forty[:20]]
        # Words that are not taken do not count, wherever they stand.
        self.assertEqual(grown(forty + near, 2).words, tuple(forty))
        self.assertEqual(grown(forty[:20] + near + forty[20:], 2).words, tuple(forty))
        for others in (["zzzzzzzzz"], near + ["zzzzzzzzz"][:0] + near[:0] + ["zzzzzzzz"]):
            words = (forty + others)[:60] if len(others) < 20 else forty + others[1:]
            self.assertEqual(raised(grown, words, 2), ("TooMany", "words", 40))
        self.assertEqual(raised(grown, forty + near, 1), ("TooMany", "words", 40))
        self.assertEqual(raised(grown, FORTY + ["zzzz"], 1), ("TooMany", "words", 40))
        self.assertEqual(grown(FORTY, 1).words, tuple(FORTY))

    def test_what_is_passed_stays(self):
        words = ["no", "thing", "nothing", "other"]
        self.assertEqual(grown(words, 2), grown(tuple(words), 2))
        self.assertEqual(words, ["no", "thing", "nothing", "other"])

    def test_errors_in_their_order(self):
        sixty = drawn_words("abc", 61, 9, 3)
        for words in (
            *NO_LISTS, [], (), sixty, ["a", "a"], ["a", "b", "a"], ["a" * 13], [""], ["a b"], ["A"], ["a", None],
            [["a"]], [("a",), ("b",)], {"a": 1}, {"a"}, [{}], [True],
        ):
            for least in (2, 0, None):
                self.assertEqual(raised(grown, words, least), ("BadBook", "words"))
        for least in (0, 5, -1, 10**45, *NO_INTEGERS):
            self.assertEqual(raised(grown, sixty[:60], least), ("BadNumber", "least"))
            self.assertEqual(raised(grown, ["a"], least), ("BadNumber", "least"))

    def test_a_short_time(self):
        started = time.perf_counter()
        for letters, many, length in ((LETTERS, 40, 9), ("abc", 40, 9), ("ab", 60, 9), ("abcdefghi", 40, 12)):
            for least in (1, 2, 3, 4):
                raised(grown, drawn_words(letters, many, length, 4), least)
        # All of these calls together take about a second.
        self.assertLess(time.perf_counter() - started, 30)
