import unittest

from anyletter.books import Book
from anyletter.plain import plain_book, plain_words
from anyletter.prices import price
from tests.support import PLAIN


class Plain(unittest.TestCase):
    def test_thirty_words_in_the_order_of_the_document(self):
        self.assertEqual(plain_words(), tuple(PLAIN))
        self.assertIsInstance(plain_words(), tuple)
        self.assertEqual(len(set(plain_words())), 30)

    def test_the_book_of_them(self):
        self.assertEqual(plain_book(), Book(PLAIN))
        for number, word in enumerate(PLAIN):
            self.assertEqual(plain_book().number(word), number)

    def test_its_price_is_four(self):
        self.assertEqual(price(plain_book()), 4)
