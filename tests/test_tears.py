import unittest

from anyletter.books import Book, spelled
from anyletter.edits import damaged, untouched
from anyletter.tears import copies_for_tear, torn, touched_most
from anyletter.texts import items_of
from tests.support import NO_INTEGERS, NO_TEXTS, PLAIN, all_texts, raised, slow_read, slow_thickly
from tests.test_books import FORTY, NO_BOOKS


class Torn(unittest.TestCase):
    def test_all_stretches_of_small_texts(self):
        for text in all_texts("a ", 3):
            for at in range(len(text) + 1):
                for signs in range(len(text) - at + 1):
                    for other in ("", "x", "b ", " a  c"):
                        wanted = list(text)
                        wanted[at:at + signs] = other
                        self.assertEqual(torn(text, at, signs, other), "".join(wanted))
        self.assertEqual(torn(other="x", signs=1, at=1, text="ab"), "ax")

    def test_long_texts(self):
        long = "a" * 200000
        self.assertEqual(torn(long, 200000, 0, ""), long)
        self.assertEqual(torn(long, 0, 200000, long), long)
        self.assertEqual(torn(long, 0, 200000, ""), "")
        self.assertEqual(torn(long, 199999, 1, "b"), long[1:] + "b")
        self.assertEqual(torn("", 0, 0, long), long)
        self.assertEqual(torn(long, 5, 1, ""), long[1:])
        for at, signs, other in ((0, 0, "a"), (200000, 0, "a"), (0, 1, "ab"), (7, 199992, "a" * 199993), (0, 0, long)):
            self.assertEqual(raised(torn, long, at, signs, other), ("TooMany", "signs", 200000))
        self.assertEqual(raised(torn, long[1:], 0, 0, "aa"), ("TooMany", "signs", 200000))
        self.assertEqual(len(torn(long[1:], 0, 0, "a")), 200000)

    def test_errors_in_their_order(self):
        for text in NO_TEXTS:
            self.assertEqual(raised(torn, text, -1, -1, None), ("BadText", "text"))
        for at in (-1, 6, 10**45, *NO_INTEGERS):
            self.assertEqual(raised(torn, "aa bb", at, -1, None), ("BadNumber", "at"))
            self.assertEqual(raised(torn, "aa bb", at=at, signs=0, other=""), ("BadNumber", "at"))
        for at, signs in ((0, 6), (2, 4), (5, 1), (0, -1), (0, 10**45), *[(0, signs) for signs in NO_INTEGERS]):
            self.assertEqual(raised(torn, "aa bb", at, signs, None), ("BadNumber", "signs"))
            self.assertEqual(raised(torn, "aa bb", at, signs, ""), ("BadNumber", "signs"))
        for other in NO_TEXTS:
            self.assertEqual(raised(torn, "aa bb", 5, 0, other), ("BadText", "other"))
            self.assertEqual(raised(torn, "a" * 200000, 0, 0, other), ("BadText", "other"))


class TouchedMost(unittest.TestCase):
    def touched(self, text, at, signs):
        """How many items are not untouched when each sign of a stretch is lost, one behind another."""
        return len(items_of(text)) - len(untouched(text, [("lost", at)] * signs))

    def test_against_stretches_of_words(self):
        for length in range(1, 13):
            text = " ".join(["a" * length] * 14)
            for signs in range(1, 13):
                # Words enough stand about each of these stretches.
                places = range(length + 1, 3 * (length + 1))
                wanted = max(self.touched(text, at, signs) for at in places)
                self.assertEqual(touched_most(length, signs), wanted, (length, signs))

    def test_far_ends(self):
        self.assertEqual([touched_most(1, 60), touched_most(12, 60), touched_most(1, 1), touched_most(12, 1)], [31, 6, 2, 2])
        self.assertEqual([touched_most(12, 13), touched_most(12, 14), touched_most(12, 27)], [2, 3, 4])
        self.assertEqual(touched_most(signs=7, length=2), 4)

    def test_errors_in_their_order(self):
        for length in (0, 13, -1, 10**45, *NO_INTEGERS):
            self.assertEqual(raised(touched_most, length, 0), ("BadNumber", "length"))
            self.assertEqual(raised(touched_most, length, 1), ("BadNumber", "length"))
        for signs in (0, 61, -1, 10**45, *NO_INTEGERS):
            self.assertEqual(raised(touched_most, 1, signs), ("BadNumber", "signs"))
            self.assertEqual(raised(touched_most, 12, signs), ("BadNumber", "signs"))


class CopiesForTear(unittest.TestCase):
    def test_one_more_than_it_touches(self):
        for length in range(1, 13):
            for signs in range(1, 5):
                for words in (["a" * length], ["a" * length, "b" * length, "c" * length]):
                    if len(words) == 1 or length > signs:
                        self.assertEqual(copies_for_tear(Book(words), signs), touched_most(length, signs) + 1)
                    else:
                        self.assertEqual(raised(copies_for_tear, Book(words), signs), ("Misfit", "price"))
        self.assertEqual(copies_for_tear(signs=4, book=Book(["a"])), 4)

    def test_rows_behind_tears_read_thickly(self):
        for words, signs in ((["aa", "bb"], 1), (["a"], 1), (["a"], 2), (["ab"], 2)):
            copies = copies_for_tear(Book(words), signs)
            for row in [[0], [0, 1], [1, 0, 1], [0, 0]]:
                if max(row) < len(words):
                    text = spelled(Book(words), row, copies)
                    for at in range(len(text) - signs + 1):
                        for other in [other for other in all_texts("abx ", signs) if len(other) == signs]:
                            left = torn(text, at, signs, other)
                            self.assertTrue(slow_thickly(tuple(row), slow_read(words, left)), (words, text, left))

    def test_one_copy_fewer_can_be_lost(self):
        for words, signs in ((["aa", "bb"], 1), (["a"], 1), (["a"], 2), (["abcdef"], 4)):
            copies = copies_for_tear(Book(words), signs) - 1
            text = spelled(Book(words), [0], copies)
            tears = [torn(text, at, signs, "x" * signs) for at in range(len(text) - signs + 1)]
            self.assertIn((), [slow_read(words, left) for left in tears])

    def test_misfits_in_their_order(self):
        self.assertEqual(raised(copies_for_tear, Book(["aa", "b"]), 4), ("Misfit", "length"))
        self.assertEqual(raised(copies_for_tear, Book(["aaaaaa", "bbbbbb", "ccccccc"]), 1), ("Misfit", "length"))
        self.assertEqual(raised(copies_for_tear, Book(PLAIN), 1), ("Misfit", "length"))
        self.assertEqual(raised(copies_for_tear, Book(FORTY), 1), ("Misfit", "price"))
        self.assertEqual(raised(copies_for_tear, Book(["aaa", "bbb"]), 3), ("Misfit", "price"))
        self.assertEqual(copies_for_tear(Book(["aaa", "bbb"]), 2), 3)

    def test_errors_in_their_order(self):
        for book in NO_BOOKS:
            self.assertEqual(raised(copies_for_tear, book, 0), ("BadBook", "book"))
            self.assertEqual(raised(copies_for_tear, book, 1), ("BadBook", "book"))
        for signs in (0, 5, -1, 10**45, *NO_INTEGERS):
            for words in (["aa"], ["aa", "b"], FORTY):
                self.assertEqual(raised(copies_for_tear, Book(words), signs), ("BadNumber", "signs"))

    def test_a_tear_of_as_many_signs_is_done_by_that_many_edits(self):
        text = "aa bb cc"
        edits = [("changed", 2, "x"), ("changed", 3, "y"), ("changed", 4, " ")]
        self.assertEqual(torn(text, 2, 3, "xy "), damaged(text, edits))
