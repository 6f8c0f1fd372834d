import random
import unittest
import unittest.mock

from anyletter.books import Book, spelled
from anyletter.check_thick import shows_book
from anyletter.papers import Denial, Paper
from anyletter.thick import Broken, Thick, judged_book
from tests.support import NO_INTEGERS, NO_LISTS, PLAIN, all_edits, raised, slow_left
from tests.test_books import FORTY, NO_BOOKS
from tests.test_check_ways import bent_in_one_place
from tests.test_makers import LETTERS
from tests.test_prices import SMALL, any_books
from tests.test_thick import is_broken

PAIR = Book(["aa", "bb"])


class ShowsBook(unittest.TestCase):
    def test_what_the_function_returns_is_right(self):
        for words in [*SMALL, ["one"], *any_books(20, "ab", 4, 4, 41), FORTY, PLAIN]:
            for copies, many in ((1, 1), (2, 1), (3, 1), (12, 1), (4, 2), (5, 2), (6, 3), (7, 3), (8, 4), (9, 4)):
                told = judged_book(Book(words), copies, many)
                self.assertIs(shows_book(Book(words), copies, many, told), True, (words, copies, many))

    def test_thick_only_with_the_price_and_if_it_is_so(self):
        for book, copies, many, cost in (
            (PAIR, 3, 1, 2), (Book(["aaa", "bbb"]), 5, 2, 3), (Book(["one"]), 9, 4, None), (Book(["aaaa", "bbbb"]), 7, 3, 4),
        ):
            for told in (None, 0, 1, 2, 3, 4, 5, -1, True, False, 2.0, 4.0, "2", "", [], [2], [None], (4,), 10**45):
                wanted = told == cost and not isinstance(told, float)
                self.assertIs(shows_book(book, copies, many, Thick(told)), wanted, told)
                self.assertIs(shows_book(book, copies - 1, many, Thick(told)), False)
        for told in (None, 0, 1, 2, True):
            self.assertIs(shows_book(PAIR, 5, 2, Thick(told)), False)
            self.assertIs(shows_book(Book(["a", "b"]), 12, 1, Thick(told)), False)

    def test_other_right_papers(self):
        for words, copies, many, row, edits in (
            (["aa", "bb"], 2, 1, [0], [("lost", 2)]), (["aa", "bb"], 2, 1, (0,), [["changed", 2, "a"]]),
            (["aa", "bb"], 2, 1, [1, 0], (("lost", 2),)), (["aa", "bb"], 2, 2, [0, 0], [("lost", 8), ("lost", 2)]),
            (["aa", "bb"], 2, 2, [0], [("lost", 0), ("lost", 3)]), (["aa", "bb"], 2, 2, [0], [("lost", 4), ("lost", 0)]),
            (["aa", "bb"], 5, 2, [1, 0], [("changed", 4, "a"), ("changed", 3, "a")]),
            (["aa", "bb"], 1, 1, [0], [("put", 1, " ")]), (["aa", "bb"], 1, 1, [0] * 60, [("put", 88, " ")]),
            (["one"], 1, 1, [0], [("changed", 0, " ")]), (["one"], 2, 1, [0], [("changed", 3, "a")]),
            (["a", "b"], 12, 1, [0], [("changed", 0, "b")]), (["a", "b"], 12, 1, [0], [("changed", 22, "b")]),
            (["a", "b"], 12, 4, [0], [("put", 0, " "), ("put", 0, " "), ("put", 0, "b")]),
            (["no", "thing", "nothing"], 12, 1, [0, 1], [("lost", 35)]),
        ):
            self.assertTrue(is_broken(words, copies, many, row, edits), (words, copies, many, row, edits))
            self.assertIs(shows_book(Book(words), copies, many, Broken(row, edits)), True, (words, row, edits))

    def test_wrong_parts(self):
        for copies, many, row, edits in (
            (2, 1, [], []), (2, 1, [0], []), (2, 1, [0], [("lost", 0)]), (2, 1, [0], [("lost", 0), ("lost", 1)]),
            (2, 1, [0] * 61, [("lost", 2)]), (2, 1, [2], [("lost", 2)]), (2, 1, [-1], [("lost", 2)]),
            (2, 1, [True], [("lost", 2)]), (2, 1, [False], [("lost", 2)]), (2, 1, [0], [("lost", True)]),
            (2, 1, [0], [("lost", 5)]), (2, 1, [0], [("lost", -3)]), (2, 1, 0, [("lost", 2)]), (2, 1, "0", [("lost", 2)]),
            (2, 1, None, [("lost", 2)]), (2, 1, [0], None), (2, 1, [0], "lost"), (2, 1, [0], ("lost", 2)),
            (2, 1, [0], [("changed", 2, " ")]), (2, 1, [0], [("changed", 2, "A")]), (2, 1, [[0]], [("lost", 2)]),
            (2, 1, [0], [("lost", 2), ("put", 2, " ")]), (3, 1, [0], [("lost", 2)]), (2, 1, [0.0], [("lost", 2)]),
            (2, 1, [], [("put", 0, "a")]), (2, 1, [10**45], [("lost", 2)]), (2, 1, [0], [("lost", 10**45)]),
            (2, 1, [0], [{}]), (2, 1, [{}], [("lost", 2)]), (2, 1, {}, [("lost", 2)]),
        ):
            self.assertIs(shows_book(PAIR, copies, many, Broken(row, edits)), False, (row, edits))
        # A word can be put in whole into the text of the row without words, of which nothing is asked.
        self.assertIs(shows_book(Book(["a", "b"]), 2, 1, Broken([], [("put", 0, "a")])), False)
        self.assertIs(shows_book(PAIR, 2, 1, Broken([0] * 60, [("lost", 2)])), False)
        self.assertIs(shows_book(PAIR, 1, 1, Broken([0] * 60, [("lost", 2)])), True)
        self.assertIs(shows_book(PAIR, 1, 1, Broken([0] * 61, [("lost", 2)])), False)

    def test_papers_bent_in_one_place(self):
        seen = []
        for words, copies, many in ((["aa", "bb"], 2, 1), (["aa", "bb"], 5, 2), (["a", "ab", "b"], 3, 1), (["one"], 4, 2)):
            told = judged_book(Book(words), copies, many)
            for edits in bent_in_one_place(told.edits):
                wanted = all(isinstance(edit, (list, tuple)) for edit in edits)
                wanted = wanted and is_broken(words, copies, many, told.row, edits)
                self.assertIs(shows_book(Book(words), copies, many, Broken(told.row, edits)), wanted, (words, edits))
                seen.append(wanted)
            for row in (told.row[1:], told.row + (0,), (len(words) - 1,) + told.row, told.row[::-1], ()):
                wanted = is_broken(words, copies, many, row, told.edits)
                self.assertIs(shows_book(Book(words), copies, many, Broken(row, told.edits)), wanted)
        self.assertGreater(seen.count(True), 10)
        self.assertGreater(seen.count(False), 50)

    def test_drawn_papers_against_the_words_of_the_document(self):
        drawn = random.Random(42)
        seen = []
        for words in any_books(30, "ab", 3, 3, 43):
            for _ in range(30):
                copies, many = drawn.randint(1, 4), drawn.randint(1, 2)
                row = drawn.choices(range(len(words)), k=drawn.randint(1, 3))
                text, edits = spelled(Book(words), row, copies), []
                for _ in range(drawn.randint(0, 3)):
                    edits.append(drawn.choice(all_edits(text, "ab ")))
                    text = slow_left(text, edits[-1])
                seen.append(is_broken(words, copies, many, row, edits))
                self.assertIs(shows_book(Book(words), copies, many, Broken(row, edits)), seen[-1], (words, row, edits))
        self.assertGreater(seen.count(True), 50)
        self.assertGreater(seen.count(False), 50)

    def test_values_that_are_no_such_papers(self):
        class Below(Broken):
            pass

        class More(Thick):
            pass

        right = ([0], [("lost", 2)])
        for value in (
            *NO_LISTS, right, list(right), Paper("broken", *right), Denial("broken", *right), Paper("thick", 2),
            Below(*right), More(2), Broken, Thick, unittest.mock.ANY, type("Broken", (), {"row": (0,), "edits": right[1]})(),
            type("Thick", (), {"price": 2})(), 2, Broken(Broken(*right), right[1]), Thick(Thick(2)),
        ):
            self.assertIs(shows_book(PAIR, 2, 1, value), False)
            self.assertIs(shows_book(PAIR, 3, 1, value), False)

    def test_errors_come_whatever_the_value(self):
        for value in (None, Thick(2), Broken([0], [("lost", 2)]), Broken(None, None)):
            for book in NO_BOOKS:
                self.assertEqual(raised(shows_book, book, 0, 0, value), ("BadBook", "book"))
            for copies in (0, 13, [3, 3], *NO_INTEGERS):
                self.assertEqual(raised(shows_book, PAIR, copies, 0, value), ("BadNumber", "copies"))
            for many in (0, 5, *NO_INTEGERS):
                self.assertEqual(raised(shows_book, value=value, many=many, copies=3, book=PAIR), ("BadNumber", "many"))
