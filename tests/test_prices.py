import random
import time
import unittest

from anyletter.books import Book, spelled
from anyletter.edits import texts_behind
from anyletter.papers import Denial, Paper
from anyletter.prices import Alone, Strange, made_words, price, price_of
from tests.support import NO_INTEGERS, PLAIN, all_edits, raised, slow_cost, slow_left, slow_made_words, slow_price
from tests.test_books import FORTY, NO_BOOKS

CALLS = (price, price_of)


def any_books(times, letters, most_words, most_letters, seed):
    """Lists of words, drawn always alike."""
    drawn = random.Random(seed)
    for _ in range(times):
        words = []
        while len(words) < drawn.randint(2, most_words):
            word = "".join(drawn.choice(letters) for _ in range(drawn.randint(1, most_letters)))
            if word not in words:
                words.append(word)
        yield words


SMALL = [
    ["a", "b"], ["a", "aa"], ["a", "aaaa"], ["aaaa", "a", "b"], ["ab", "ba"], ["aa", "bb"], ["a", "b", "ab"],
    ["ab", "cd", "bc"], ["ab", "cd", "bxc"], ["xa", "by", "ab"], ["abab", "ab", "ba"], ["abcd", "ab", "cd"],
    ["aab", "baa", "bab", "aba"], ["ab", "aab", "b", "abb"], ["a", "c", "abc"], ["a", "c", "abbc"], ["aaa", "bbb"],
    ["aa", "cc", "abbc"], ["no", "thing", "nothi"],
]


class Made(unittest.TestCase):
    def check_book(self, words):
        book = Book(words)
        for many in range(5):
            self.assertEqual(made_words(book, many), slow_made_words(words, many), words)
        self.assertEqual(price(book), slow_price(words), words)

    def test_small_books_against_the_slow_reckoning(self):
        for words in SMALL:
            self.check_book(words)

    def test_drawn_books_against_the_slow_reckoning(self):
        for words in [*any_books(60, "ab", 4, 4, 1), *any_books(40, "abc", 4, 4, 2)]:
            self.check_book(words)

    def test_a_blank_between_unlike_words_lost_and_changed(self):
        self.assertEqual(made_words(Book(["no", "thing", "nothing"]), 1), ((0, 1, 2), (2, 2, 0), (2, 2, 1)))
        self.assertIn((0, 1, 2), made_words(Book(["ab", "cd", "abxcd"]), 1))
        self.assertNotIn((1, 0, 2), made_words(Book(["ab", "cd", "abxcd"]), 4))

    def test_a_letter_beside_a_stretch_costs_one_more(self):
        for words, cost in ((["xaby", "ab"], 2), (["abx", "ab"], 1), (["xab", "ab"], 1)):
            self.assertEqual(price(Book(words)), slow_cost(words[0], words[0], words[1]))
            self.assertEqual(price(Book(words)), cost)
        self.assertEqual(made_words(Book(["xaby", "ab"]), 2), ((0, 0, 1), (1, 1, 0)))

    def test_stretches_of_many_copies(self):
        words = ["a", "aaaaaaaaaaaa"]
        self.assertEqual(made_words(Book(words), 2), ((1, 1, 0),))
        self.assertEqual(price(Book(words)), 1)
        self.assertNotIn((0, 0, 1), made_words(Book(words), 4))
        self.assertIn((0, 0, 1), made_words(Book(["a", "aaaaaaaaa"]), 4))
        self.assertNotIn((0, 0, 1), made_words(Book(["a", "aaaaaaaaa"]), 3))

    def test_a_word_is_put_in_whole(self):
        for words, least in ((["a", "bcdefg"], 2), (["b", "a"], 1), (["cccc", "aa"], 3), (["cccccccc", "aaa", "bbbbbb"], 4)):
            self.assertEqual(price(Book(words)), least)

    def test_prices_up_to_twelve(self):
        self.assertEqual(price(Book(["a" * 12, "b" * 12])), 12)
        self.assertEqual(price(Book(["a" * 11, "b" * 11])), 11)
        self.assertEqual(price(Book(["a" * 11, "b" * 12])), 12)

    def test_triples_are_ascending_and_of_integers(self):
        told = made_words(Book(FORTY[:12]), 4)
        self.assertIsInstance(told, tuple)
        self.assertEqual(list(told), sorted(set(told)))
        self.assertEqual(len(told), 12 * 11 * 11)
        self.assertEqual({type(number) for triple in told for number in triple}, {int})
        self.assertEqual({type(triple) for triple in told}, {tuple})

    def test_books_of_one_word_and_of_forty(self):
        self.assertEqual(made_words(Book(["a"]), 4), ())
        self.assertIsNone(price(Book(["a"])))
        self.assertEqual(price(Book(FORTY)), 1)
        self.assertEqual(price(Book(PLAIN)), 4)
        self.assertEqual(made_words(Book(PLAIN), 3), ())
        self.assertNotEqual(made_words(Book(PLAIN), 4), ())

    def test_bounds_of_many(self):
        self.assertEqual(made_words(Book(["a", "b"]), 0), ())
        self.assertEqual(made_words(many=1, book=Book(["a", "b"])), ((0, 0, 1), (1, 1, 0)))
        for many in (-1, 5, 10**45, *NO_INTEGERS):
            self.assertEqual(raised(made_words, Book(["a", "b"]), many), ("BadNumber", "many"))
            self.assertEqual(raised(made_words, Book(["a"]), many), ("BadNumber", "many"))

    def test_no_books(self):
        for book in NO_BOOKS:
            self.assertEqual(raised(made_words, book, 5), ("BadBook", "book"))
            for call in CALLS:
                self.assertEqual(raised(call, book), ("BadBook", "book"))
                self.assertEqual(raised(call, book=book), ("BadBook", "book"))


class PriceOf(unittest.TestCase):
    def check_strange(self, words):
        book = Book(words)
        told = price_of(book)
        self.assertIsInstance(told, Strange)
        self.assertEqual((told.word, told.parts), ("strange", (told.row, told.edits, told.made)))
        self.assertEqual(len(told.edits), price(book))
        unlike = [number for number, after in zip(told.row, told.row[1:]) if number != after]
        self.assertTrue(len(told.row) > 0 and len(unlike) <= 1)
        self.assertNotIn(told.made, told.row)
        text = spelled(book, told.row, 1)
        for edit in told.edits:
            text = slow_left(text, edit)
        self.assertIn(words[told.made], text.split(" "))
        self.assertEqual(texts_behind(spelled(book, told.row, 1), told.edits)[-1], text)
        self.assertEqual(price_of(book=Book(tuple(words))), told)
        self.assertIs(bool(told), True)

    def test_small_books(self):
        for words in SMALL:
            self.check_strange(words)

    def test_drawn_books(self):
        for words in [*any_books(60, "ab", 4, 5, 3), *any_books(60, "abc", 5, 6, 4), *any_books(20, "abcdefgh", 6, 12, 5)]:
            self.check_strange(words)

    def test_prices_that_only_two_unlike_words_have(self):
        self.check_strange(["abcdef", "uvwxyz", "defuvw"])
        self.check_strange(["abcdef", "uvwxyz", "abcdefuvwxyz"])
        self.assertEqual(price_of(Book(["abcdef", "uvwxyz", "abcdefuvwxyz"])).made in (0, 1, 2), True)
        self.check_strange(["defgh", "abcxy", "cxydef"])

    def test_words_of_twelve_letters_and_full_books(self):
        for words in (["a" * 12, "b" * 12], ["a" * 11, "b" * 12], ["a", "b" * 12], FORTY, PLAIN):
            self.check_strange(words)

    def test_one_word(self):
        told = price_of(Book(["one"]))
        self.assertIsInstance(told, Alone)
        self.assertIsInstance(told, Denial)
        self.assertEqual((told, told.word, told.parts), (Alone(), "alone", ()))
        self.assertNotEqual(told, Paper("alone"))
        self.assertIs(bool(told), False)

    def test_fewer_edits_than_the_price_make_no_word(self):
        for words in (["aa", "bb"], ["abc", "cba"], ["aab", "bba"]):
            book = Book(words)
            for row in ([0], [0, 0], [1], [1, 1]):
                reached = {spelled(book, row, 1)}
                for _ in range(price(book) - 1):
                    reached |= {slow_left(text, edit) for text in reached for edit in all_edits(text, "abc ")}
                for text in reached:
                    self.assertNotIn(words[1 - row[0]], text.split(" "))

    def test_thirty_words_of_nine_letters_in_a_short_time(self):
        drawn = random.Random(9)
        for letters in ("abcdefghijklmnopqrstuvwxyz", "ab", "abc"):
            words = []
            while len(words) < 30:
                word = "".join(drawn.choice(letters) for _ in range(9))
                words += [word] if word not in words else []
            started = time.perf_counter()
            self.check_strange(words)
            for many in range(5):
                made_words(Book(words), many)
            # All of these calls together take about a second.
            self.assertLess(time.perf_counter() - started, 30)
