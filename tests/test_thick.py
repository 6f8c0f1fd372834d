import random
import time
import unittest

from anyletter.books import Book
from anyletter.papers import Denial, Paper
from anyletter.prices import price
from anyletter.thick import Broken, Thick, judged_book, reads_thickly
from tests.support import (
    NO_INTEGERS, NO_LISTS, PLAIN, raised, slow_left, slow_price, slow_read, slow_spelled, slow_thickly,
    texts_left,
)
from tests.test_books import FORTY, NO_BOOKS
from tests.test_makers import LETTERS, drawn_words
from tests.test_prices import SMALL, any_books


def all_rows(numbers, most):
    rows = [()]
    for row in rows:
        if len(row) < most:
            rows += [row + (number,) for number in range(numbers)]
    return rows


def is_of_the_form(edit):
    """Whether it is an edit, whatever text it is done to."""
    if len(edit) < 2 or isinstance(edit[1], bool) or not isinstance(edit[1], int):
        return False
    signs = list(LETTERS + " ")
    return edit[0] == "lost" and len(edit) == 2 or edit[0] in ("put", "changed") and len(edit) == 3 and edit[2] in signs


def is_broken(words, copies, many, row, edits):
    """Whether the damage spoils the row, by the words of the document; row and edits are of the right kinds."""
    if not 1 <= len(row) <= 60 or len(edits) > many or not set(row) <= set(range(len(words))):
        return False
    text = slow_spelled(words, row, [copies] * len(words))
    for edit in edits:
        text = slow_left(text, edit) if is_of_the_form(edit) else None
        if text is None:
            return False
    return not slow_thickly(tuple(row), slow_read(words, text))


class ReadsThickly(unittest.TestCase):
    def test_all_small_rows_against_the_slow_reckoning(self):
        seen = set()
        for row in all_rows(2, 4):
            for other in all_rows(2, 6):
                wanted = slow_thickly(row, other)
                self.assertIs(reads_thickly(row, list(other)), wanted, (row, other))
                seen.add(wanted)
        self.assertEqual(seen, {True, False})

    def test_drawn_rows_of_three_numbers(self):
        drawn = random.Random(31)
        for _ in range(300):
            row = [drawn.choice((0, 7, 39)) for _ in range(drawn.randint(0, 6))]
            other = [number for number in row for _ in range(drawn.choice((1, 1, 2, 3)))]
            self.assertIs(reads_thickly(row, other), True)
            if other:
                other.pop(drawn.randrange(len(other)))
            self.assertIs(reads_thickly(row, other), slow_thickly(tuple(row), tuple(other)))

    def test_long_rows(self):
        long = [0, 1] * 5000
        self.assertIs(reads_thickly(long, tuple(long)), True)
        self.assertIs(reads_thickly(long, long[:-1]), False)
        self.assertIs(reads_thickly([39], [39] * 10000), True)
        self.assertIs(reads_thickly([39] * 10000, [39] * 9999), False)

    def test_errors_in_their_order(self):
        for row in (*NO_LISTS, [40], [-1], [0, 40], [0] * 10001, [True], [None], [0, "1"], [[0]], [10**45], [0.0], {0}):
            for other in ([], [40], None):
                self.assertEqual(raised(reads_thickly, row, other), ("BadRow", "row"))
                self.assertEqual(raised(reads_thickly, other=other, row=row), ("BadRow", "row"))
            self.assertEqual(raised(reads_thickly, [], row), ("BadRow", "other"))
            self.assertEqual(raised(reads_thickly, [39] * 10000, row), ("BadRow", "other"))


class JudgedBook(unittest.TestCase):
    def check_judged(self, words, copies, many):
        told = judged_book(Book(words), copies, many)
        cost = price(Book(words))
        if copies > 2 * many and (cost is None or cost > many):
            self.assertIsInstance(told, Thick)
            self.assertEqual((told, told.price, told.word, told.parts), (Thick(cost), cost, "thick", (cost,)))
            self.assertIs(bool(told), True)
        else:
            self.assertIsInstance(told, Broken)
            self.assertEqual((told.word, told.parts), ("broken", (told.row, told.edits)))
            self.assertIs(bool(told), False)
            self.assertTrue(is_broken(words, copies, many, told.row, told.edits), (words, copies, many, told.parts))
        self.assertEqual(judged_book(Book(tuple(words)), many=many, copies=copies), told)
        return told

    def test_small_books_with_all_copies_and_edits(self):
        for words in [*SMALL, ["one"], ["a"], ["b" * 12], ["aa", "bb", "cc"], ["aaa", "bbb"], ["abcde", "fghij", "klmno"]]:
            for copies in range(1, 13):
                for many in range(1, 5):
                    self.check_judged(words, copies, many)

    def test_drawn_books(self):
        for words in [*any_books(30, "ab", 4, 5, 32), *any_books(30, "abcd", 5, 7, 33), *any_books(20, LETTERS, 6, 9, 34)]:
            for copies, many in ((1, 1), (2, 1), (3, 1), (12, 1), (3, 2), (4, 2), (5, 2), (1, 3), (6, 3), (7, 3), (8, 4), (9, 4)):
                self.check_judged(words, copies, many)

    def test_thick_books_against_all_damages_of_small_rows(self):
        # A letter that no word has stands for all others of this kind.
        for words, copies, many in (
            (["aa", "bb"], 3, 1), (["a"], 3, 1), (["ab", "cd"], 3, 1), (["aab", "bba"], 3, 1), (["ab", "ba"], 4, 1),
            (["abc"], 3, 1), (["aa", "bb", "cc"], 3, 1),
        ):
            self.assertIs(bool(self.check_judged(words, copies, many)), True)
            for row in all_rows(len(words), 3)[1:]:
                text = slow_spelled(words, row, [copies] * len(words))
                for left in texts_left(text, "".join(sorted(set("".join(words)))) + "x ", many):
                    self.assertTrue(slow_thickly(row, slow_read(words, left)), (words, row, left))

    def test_thick_books_against_all_damages_of_two_edits(self):
        for words, copies, many in ((["a"], 5, 2), (["aaa", "bbb"], 5, 2)):
            self.assertIs(bool(self.check_judged(words, copies, many)), True)
            for row in all_rows(len(words), 1)[1:]:
                text = slow_spelled(words, row, [copies] * len(words))
                for left in texts_left(text, "".join(sorted(set("".join(words)))) + " ", many):
                    self.assertTrue(slow_thickly(row, slow_read(words, left)), (words, row, left))

    def test_books_are_thick_just_if_no_damage_of_one_edit_spoils_a_row(self):
        seen = set()
        for words in any_books(40, "ab", 3, 3, 35):
            for copies in (1, 2, 3, 4):
                spoilt = any(
                    not slow_thickly(row, slow_read(words, left))
                    for row in all_rows(len(words), 2)[1:]
                    for left in texts_left(slow_spelled(words, row, [copies] * len(words)), "ab ", 1)
                )
                self.assertIs(bool(self.check_judged(words, copies, 1)), not spoilt, (words, copies))
                seen.add((copies, spoilt))
        self.assertLessEqual({(1, True), (2, True), (3, True), (3, False), (4, False)}, seen)

    def test_just_enough_copies_and_one_fewer(self):
        for many in (1, 2, 3, 4):
            words = ["a" * (many + 1), "b" * (many + 1)]
            self.assertEqual(slow_price(words), many + 1)
            self.assertEqual(self.check_judged(words, 2 * many + 1, many), Thick(many + 1))
            self.assertIs(bool(self.check_judged(words, 2 * many, many)), False)
            self.assertIs(bool(self.check_judged(["a"], 2 * many, many)), False)
            self.assertEqual(self.check_judged(["a"], 2 * many + 1, many), Thick(None))

    def test_a_price_just_above_many_and_not_above(self):
        for many in (1, 2, 3, 4):
            words = ["a" * many, "b" * many]
            self.assertEqual(slow_price(words), many)
            for copies in (2 * many + 1, 12):
                self.assertIs(bool(self.check_judged(words, copies, many)), False)

    def test_full_books(self):
        self.assertEqual(self.check_judged(PLAIN, 7, 3), Thick(4))
        self.assertIs(bool(self.check_judged(PLAIN, 12, 4)), False)
        self.assertIs(bool(self.check_judged(PLAIN, 6, 3)), False)
        self.assertIs(bool(self.check_judged(FORTY, 12, 1)), False)
        self.assertEqual(self.check_judged(drawn_words(LETTERS, 40, 9, 5), 9, 4).price, price(Book(drawn_words(LETTERS, 40, 9, 5))))

    def test_papers(self):
        self.assertEqual(Thick(None), Thick(price=None))
        self.assertNotEqual(Thick(2), Thick(3))
        self.assertEqual(Broken([0], [["lost", 2]]), Broken(edits=(("lost", 2),), row=(0,)))
        self.assertIsInstance(Broken(1, 2), Denial)
        self.assertNotIsInstance(Thick(1), Denial)
        self.assertIsInstance(Thick(1), Paper)

    def test_errors_in_their_order(self):
        book = Book(["aa", "bb"])
        for value in NO_BOOKS:
            self.assertEqual(raised(judged_book, value, 0, 0), ("BadBook", "book"))
            self.assertEqual(raised(judged_book, book=value, copies=3, many=1), ("BadBook", "book"))
        for copies in (0, 13, -1, 10**45, [3, 3], *NO_INTEGERS):
            self.assertEqual(raised(judged_book, book, copies, 0), ("BadNumber", "copies"))
            self.assertEqual(raised(judged_book, book, copies, 1), ("BadNumber", "copies"))
        for many in (0, 5, -1, 10**45, *NO_INTEGERS):
            self.assertEqual(raised(judged_book, book, 3, many), ("BadNumber", "many"))
            self.assertEqual(raised(judged_book, Book(["a"]), 12, many), ("BadNumber", "many"))

    def test_a_short_time(self):
        started = time.perf_counter()
        judged_book(Book(drawn_words("abc", 30, 9, 6)), 12, 4)
        self.assertLess(time.perf_counter() - started, 20)
