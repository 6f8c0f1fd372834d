import unittest

from anyletter.texts import begins_of, items_of
from tests.support import NO_TEXTS, all_texts, raised


class Texts(unittest.TestCase):
    def test_items(self):
        for text, items in (
            ("", ("",)), (" ", ("", "")), ("  ", ("", "", "")), ("a", ("a",)), (" a", ("", "a")), ("a ", ("a", "")),
            ("ab  c ", ("ab", "", "c", "")), ("ab cd", ("ab", "cd")),
        ):
            self.assertEqual(items_of(text), items)
            self.assertIsInstance(items_of(text), tuple)

    def test_begins(self):
        for text, begins in (("", (0,)), (" ", (0, 1)), ("  ", (0, 1, 2)), ("ab  c ", (0, 3, 4, 6)), (" ab", (0, 1))):
            self.assertEqual(begins_of(text), begins)
            self.assertIsInstance(begins_of(text), tuple)

    def test_each_item_stands_where_it_begins(self):
        for text in all_texts("a ", 6):
            items, begins = items_of(text), begins_of(text)
            self.assertEqual((len(items), len(begins)), (text.count(" ") + 1,) * 2)
            for item, begin in zip(items, begins):
                self.assertEqual(text[begin:begin + len(item)], item)
                self.assertTrue(begin == 0 or text[begin - 1] == " ")
                self.assertTrue(begin + len(item) == len(text) or text[begin + len(item)] == " ")
                self.assertNotIn(" ", item)

    def test_long_texts(self):
        self.assertEqual(items_of(" " * 200000), ("",) * 200001)
        self.assertEqual(begins_of(" " * 200000), tuple(range(200001)))
        self.assertEqual(items_of(text="a" * 200000), ("a" * 200000,))

    def test_no_texts(self):
        for call in (items_of, begins_of):
            for value in NO_TEXTS:
                self.assertEqual(raised(call, value), ("BadText", "text"))
                self.assertEqual(raised(call, text=value), ("BadText", "text"))
