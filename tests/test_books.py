import unittest
import unittest.mock

from anyletter.books import Book, read, spelled
from tests.support import NO_INTEGERS, NO_LISTS, NO_TEXTS, all_texts, raised

FORTY = [one + other for one in "abcdefgh" for other in "vwxyz"]
TINY = Book(["aa", "bb"])
NO_BOOKS = [None, 0, True, "aa", ["aa", "bb"], ("aa",), {}, Book, object()]


class Books(unittest.TestCase):
    def test_words_stand_in_a_tuple(self):
        for words in (["a"], ("b", "a"), FORTY, ["a" * 12, "b"]):
            self.assertEqual(Book(words).words, tuple(words))
            self.assertEqual(Book(words=tuple(words)).words, tuple(words))

    def test_what_is_passed_is_copied(self):
        words = ["a", "b"]
        book = Book(words)
        words.append("c")
        self.assertEqual(book.words, ("a", "b"))

    def test_no_books(self):
        for words in (
            *NO_LISTS, [], (), FORTY + ["z"], ["a", "a"], ["a", "b", "a"], ["a" * 13], [""], ["a", ""], ["a b"], [" "],
            ["A"], ["a1"], ["a", None], ["a", 1], [["a"]], [("a",), ("b",)], [True], ["a", {}], {"a": 1}, {"a"}, "ab",
        ):
            self.assertEqual(raised(Book, words), ("BadBook", "words"))
            self.assertEqual(raised(Book, words=words), ("BadBook", "words"))

    def test_equal_exactly_if_the_words_are(self):
        self.assertIs(Book(["a", "b"]) == Book(("a", "b")), True)
        self.assertIs(Book(["a", "b"]) != Book(("a", "b")), False)
        for other in (Book(["b", "a"]), Book(["a"]), Book(["a", "b", "c"]), ["a", "b"], ("a", "b"), None, "ab", 0):
            self.assertIs(Book(["a", "b"]) == other, False)
            self.assertIs(Book(["a", "b"]) != other, True)

    def test_numbers(self):
        book = Book(FORTY)
        self.assertEqual([book.number(word) for word in FORTY], list(range(40)))
        self.assertEqual(TINY.number(word="bb"), 1)
        for value in (*NO_TEXTS, "", " ", "aa bb", "a", "aab", 0, 1, ["aa"], ("aa",), "AA", "aa ", unittest.mock.ANY):
            self.assertEqual(raised(TINY.number, value), ("BadWord", "word"))
            self.assertEqual(raised(TINY.number, word=value), ("BadWord", "word"))


class Spelled(unittest.TestCase):
    def test_copies(self):
        for row, copies, text in (
            ([], 1, ""), ((), 12, ""), ([0], 0, ""), ([0, 1], 0, ""), ([0], 1, "aa"), ([1, 0], 1, "bb aa"),
            ([0, 0], 2, "aa aa aa aa"), ([0, 1], [2, 1], "aa aa bb"), ((1, 0, 1), (0, 3), "bb " * 5 + "bb"),
            ([0, 1, 0], [1, 0], "aa aa"), ([1], [5, 0], ""), ([0], 12, "aa " * 11 + "aa"), ([0], [12, 0], "aa " * 11 + "aa"),
        ):
            self.assertEqual(spelled(TINY, row, copies), text)

    def test_wrong_rows(self):
        self.assertIsNone(raised(spelled, TINY, [1] * 10000, 1))
        for row in (*NO_LISTS, [2], [-1], [0, 2], [True], [0, False], ["aa"], [[0]], [None], [0] * 10001, [10**45], {0: 1}):
            self.assertEqual(raised(spelled, TINY, row, 1), ("BadRow", "row"))

    def test_wrong_copies(self):
        for copies in (0, 12, [0, 12], (12, 0)):
            self.assertIsNone(raised(spelled, TINY, [0, 1], copies))
        for copies in (
            -1, 13, 10**45, [1], [1, 1, 1], [], (), [1, 13], [-1, 1], [1, True], [False, 1], [1, None], ["1", 1], [[1], 1],
            {0: 1, 1: 1}, "11", *NO_INTEGERS,
        ):
            self.assertEqual(raised(spelled, TINY, [], copies), ("BadNumber", "copies"))
            self.assertEqual(raised(spelled, TINY, [0, 1], copies), ("BadNumber", "copies"))

    def test_the_longest_text_and_one_sign_more(self):
        # 10 copies of 4 letters are 50 signs with their blanks, of which the last one does not come.
        book = Book(["aaaa", "b", "cc"])
        self.assertEqual(len(spelled(book, [0] * 4000, [10, 1, 1])), 199999)
        self.assertEqual(len(spelled(book, [0] * 3999 + [1] * 24 + [2], [10, 1, 1])), 199950 + 48 + 2)
        self.assertEqual(raised(spelled, book, [0] * 4000 + [1], [10, 1, 1]), ("Misfit", "signs"))
        self.assertEqual(len(spelled(book, [0] * 4000 + [1], [10, 0, 1])), 199999)
        self.assertEqual(raised(spelled, Book(["a" * 12]), [0] * 10000, 12), ("Misfit", "signs"))
        self.assertEqual(spelled(Book(["a" * 12]), [0] * 10000, 0), "")

    def test_the_order_of_errors(self):
        for book in NO_BOOKS:
            self.assertEqual(raised(spelled, book, [2], 13), ("BadBook", "book"))
            self.assertEqual(raised(read, book, None), ("BadBook", "book"))
        self.assertEqual(raised(spelled, TINY, [2], 13), ("BadRow", "row"))
        self.assertEqual(raised(spelled, TINY, [0] * 10001, 12), ("BadRow", "row"))
        self.assertEqual(raised(spelled, Book(["a" * 12]), [0] * 10000, [12, 12]), ("BadNumber", "copies"))

    def test_by_name_and_unchanged(self):
        row, copies = [0, 1], [2, 1]
        self.assertEqual(spelled(copies=copies, row=row, book=TINY), "aa aa bb")
        self.assertEqual((row, copies), ([0, 1], [2, 1]))


class Read(unittest.TestCase):
    def test_items_that_are_words(self):
        for text, row in (
            ("", ()), (" ", ()), ("aa", (0,)), ("aa ab  bb aa", (0, 1, 0)), (" bb ", (1,)), ("aabb", ()), ("aaa bb", (1,)),
            ("a a bb", (1,)), ("b", ()),
        ):
            self.assertEqual(read(TINY, text), row)
            self.assertIsInstance(read(TINY, text), tuple)

    def test_what_is_spelled_is_read(self):
        for letters in all_texts("ab", 5):
            row = ["ab".index(letter) for letter in letters]
            self.assertEqual(read(TINY, spelled(TINY, row, 1)), tuple(row))
            self.assertEqual(read(TINY, spelled(TINY, row, 2)), tuple(number for number in row for _ in "12"))

    def test_long_texts(self):
        self.assertEqual(read(Book(["a"]), "a " * 100000), (0,) * 100000)
        self.assertEqual(read(Book(["a"]), "a" * 200000), ())

    def test_no_texts(self):
        for value in NO_TEXTS:
            self.assertEqual(raised(read, TINY, value), ("BadText", "text"))
            self.assertEqual(raised(read, text=value, book=TINY), ("BadText", "text"))
