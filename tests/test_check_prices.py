import random
import unittest
import unittest.mock

from anyletter.books import Book, spelled
from anyletter.check_prices import shows_price
from anyletter.papers import Denial, Paper
from anyletter.prices import Alone, Strange, price_of
from anyletter.ways import Ways
from tests.support import NO_INTEGERS, NO_LISTS, PLAIN, all_edits, raised, slow_left, slow_price
from tests.test_books import FORTY, NO_BOOKS
from tests.test_check_ways import bent_in_one_place
from tests.test_prices import SMALL, any_books

TALK = Book(["no", "thing", "nothing"])
LETTERS = "abcdefghijklmnopqrstuvwxyz "


def is_strange(words, row, edits, made):
    """Whether it is right by the words of the document; rows and numbers are of the right kinds."""
    unlike = sum(number != after for number, after in zip(row, row[1:]))
    if not row or unlike > 1 or made in row or made not in range(len(words)):
        return False
    text = spelled(Book(words), row, 1)
    for edit in edits:
        if not isinstance(edit, (list, tuple)) or tuple(edit) not in all_edits(text, LETTERS):
            return False
        text = slow_left(text, edit)
    return words[made] in text.split(" ") and len(edits) == slow_price(words)


class ShowsPrice(unittest.TestCase):
    def test_what_the_function_returns_is_right(self):
        for words in [*SMALL, *any_books(40, "abc", 5, 6, 6), FORTY, PLAIN, ["one"], ["a" * 12, "b" * 12]]:
            self.assertIs(shows_price(Book(words), price_of(Book(words))), True)

    def test_other_right_papers(self):
        for words, row, edits, made in (
            (["no", "thing", "nothing"], [0, 1], [("lost", 2)], 2),
            (["no", "thing", "nothing"], [0, 0, 0, 1, 1], [["lost", 8]], 2),
            (["no", "thing", "nothing"], (2, 2, 0), (("put", 2, " "),), 1),
            (["aa", "bb"], [0], [("changed", 1, "b"), ("changed", 0, "b")], 1),
            (["aa", "bb"], [1] * 10000, [("changed", 0, "a"), ("changed", 1, "a")], 0),
            (["a", "bcdefg"], [1], [("put", 0, " "), ("put", 0, "a")], 0),
            (["a", "bcdefg"], [1], [("put", 1, " "), ("changed", 0, "a")], 0),
        ):
            self.assertIs(shows_price(Book(words), Strange(row, edits, made)), True)

    def test_wrong_parts(self):
        for row, edits, made in (
            ([1, 0], [("lost", 5)], 2), ([0, 1], [("lost", 2)], 1), ([0, 1], [("lost", 2)], 0), ([0, 1], [("lost", 1)], 2),
            ([0, 1], [], 2), ([], [("put", 0, "a")], 2), ([0, 1], [("lost", 2), ("put", 9, "a")], 2),
            ([0, 1, 0], [("lost", 2)], 2), ([0, 1, 2], [("lost", 2)], 2), ([0, 1], [("lost", 2)], 3),
            ([0, 1], [("lost", 2)], -1), ([0, 1], [("lost", 2)], 10**45), ([0, 3], [("lost", 2)], 2),
            ([-3, 1], [("lost", 2)], 2), ([2, 0], [("put", 2, " ")], 0), ([2], [("put", 2, " ")], 2),
            ([0] * 9999 + [1] * 2, [("lost", 29996)], 2), ([0, 1], [("lost", 10)], 2),
        ):
            self.assertIs(shows_price(TALK, Strange(row, edits, made)), False, (row, edits, made))
        self.assertIs(shows_price(TALK, Strange([0] * 9999 + [1], [("lost", 29996)], 2)), True)

    def test_a_row_without_words_is_not_right(self):
        edits = [("put", 0, "c"), ("put", 1, "d")]
        self.assertIs(shows_price(Book(["ab", "cd"]), Strange([], edits, 1)), False)
        self.assertIs(shows_price(Book(["ab", "cd"]), Strange([0], [("changed", 0, "c"), ("changed", 1, "d")], 1)), True)

    def test_parts_of_other_kinds(self):
        right = ([0, 1], [("lost", 2)], 2)
        self.assertIs(shows_price(TALK, Strange(*right)), True)
        for place, values in enumerate((NO_LISTS, NO_LISTS, NO_INTEGERS)):
            for value in values:
                parts = right[:place] + (value,) + right[place + 1:]
                self.assertIs(shows_price(TALK, Strange(*parts)), False)
        for row in ([False, True], [0, True], ["no", "thing"], [[0], 1], [None], [0, 1.0]):
            self.assertIs(shows_price(TALK, Strange(row, right[1], 2)), False)

    def test_true_is_no_number(self):
        book = Book(["nothing", "no", "thing"])
        self.assertIs(shows_price(book, Strange([0], [("put", 2, " ")], 1)), True)
        self.assertIs(shows_price(book, Strange([0], [("put", 2, " ")], True)), False)
        self.assertIs(shows_price(book, Strange([False], [("put", 2, " ")], 1)), False)
        book = Book(["a", "ba"])
        self.assertIs(shows_price(book, Strange([1], [("lost", 0)], 0)), True)
        self.assertIs(shows_price(book, Strange([1], [("lost", False)], 0)), False)
        self.assertIs(shows_price(book, Strange([True], [("lost", 0)], 0)), False)
        self.assertIs(shows_price(book, Strange([1], [("lost", 0)], False)), False)

    def test_papers_bent_in_one_place(self):
        seen = set()
        for words in (["no", "thing", "nothing"], ["aa", "bb"], ["ab", "cd", "bxc"], ["abcde", "ba"]):
            told = price_of(Book(words))
            for edits in bent_in_one_place(told.edits):
                wanted = is_strange(words, told.row, edits, told.made)
                self.assertIs(shows_price(Book(words), Strange(told.row, edits, told.made)), wanted, (words, edits))
                seen.add(wanted)
            for row in (told.row[1:], told.row + (0,), (told.made,) + told.row, told.row[::-1], ()):
                wanted = is_strange(words, row, told.edits, told.made)
                self.assertIs(shows_price(Book(words), Strange(row, told.edits, told.made)), wanted, (words, row))
            for made in range(-1, 4):
                wanted = is_strange(words, told.row, told.edits, made)
                self.assertIs(shows_price(Book(words), Strange(told.row, told.edits, made)), wanted)
        self.assertEqual(seen, {True, False})

    def test_drawn_papers_against_the_words_of_the_document(self):
        drawn = random.Random(11)
        seen = []
        for words in any_books(30, "ab", 4, 3, 8):
            for _ in range(40):
                row = sorted(drawn.choices(range(len(words)), k=drawn.randint(1, 3)), reverse=drawn.random() < 0.5)
                text, edits = spelled(Book(words), row, 1), []
                for _ in range(drawn.randint(0, 2)):
                    edits.append(drawn.choice(all_edits(text, "ab ")))
                    text = slow_left(text, edits[-1])
                made = drawn.randrange(len(words))
                seen.append(is_strange(words, row, edits, made))
                self.assertIs(shows_price(Book(words), Strange(row, edits, made)), seen[-1], (words, row, edits, made))
        self.assertGreater(seen.count(True), 10)

    def test_alone(self):
        self.assertIs(shows_price(Book(["one"]), Alone()), True)
        self.assertIs(shows_price(TALK, Alone()), False)
        self.assertIs(shows_price(Book(["one"]), Strange([0], [("put", 0, "a")], 0)), False)
        self.assertIs(shows_price(Book(["one"]), Strange([0], [], 0)), False)

    def test_values_that_are_no_such_papers(self):
        class Below(Strange):
            pass

        class More(Alone):
            pass

        right = ([0, 1], [("lost", 2)], 2)
        for value in (
            *NO_LISTS, right, list(right), Paper("strange", *right), Denial("strange", *right), Ways(right[1]),
            type("Strange", (), {"row": (0, 1), "edits": (("lost", 2),), "made": 2})(), type("Alone", (), {})(),
            unittest.mock.ANY, Below(*right), Strange, Paper("alone"), Denial("alone"), More(), Strange(Strange(*right), right[1], 2),
        ):
            self.assertIs(shows_price(TALK, value), False)
            self.assertIs(shows_price(Book(["one"]), value), False)

    def test_errors_come_whatever_the_value(self):
        for book in NO_BOOKS:
            for value in (None, Alone(), Strange([0], [], 1)):
                self.assertEqual(raised(shows_price, book, value), ("BadBook", "book"))
                self.assertEqual(raised(shows_price, value=value, book=book), ("BadBook", "book"))
        self.assertIs(shows_price(value=Alone(), book=Book(["one"])), True)
