"""The names and parameters that the document lists, each defined in the file under which it is listed."""

import importlib
import inspect
import unittest

FUNCTIONS = {
    "checks": {
        "is_integer": ["value"], "is_within": ["value", "least", "most"], "are_integers": ["value"],
        "is_word": ["value"], "is_sign": ["value"], "is_text": ["value"],
    },
    "papers": {"fixed": ["value"]},
    "texts": {"items_of": ["text"], "begins_of": ["text"]},
    "edits": {"damaged": ["text", "edits"], "undone": ["text", "edits"], "untouched": ["text", "edits"]},
    "ways": {
        "least_edits": ["one", "other"], "edits_between": ["one", "other"], "around": ["text", "signs", "many"],
    },
    "check_ways": {"shows_ways": ["one", "other", "value"]},
    "books": {"spelled": ["book", "row", "copies"], "read": ["book", "text"]},
    "prices": {"made_words": ["book", "many"], "price": ["book"], "price_of": ["book"]},
    "check_prices": {"shows_price": ["book", "value"]},
}
# For each class the methods that it defines itself, and the parameters with which it is called.
CLASSES = {
    "papers": {
        "Paper": (["__init__", "__eq__", "__bool__"], ["word", "parts"]),
        "Denial": (["__init__", "__eq__", "__bool__"], ["word", "parts"]),
    },
    "ways": {"Ways": (["__init__"], ["edits"])},
    "books": {"Book": (["__init__", "__eq__", "number"], ["words"])},
    "prices": {"Strange": (["__init__"], ["row", "edits", "made"]), "Alone": (["__init__"], [])},
}


class Interface(unittest.TestCase):
    def test_functions(self):
        for module, functions in FUNCTIONS.items():
            for name, parameters in functions.items():
                function = getattr(importlib.import_module("anyletter." + module), name)
                self.assertTrue(inspect.isfunction(function))
                self.assertEqual(function.__module__, "anyletter." + module)
                self.assertEqual(list(inspect.signature(function).parameters), parameters)

    def test_classes(self):
        for module, classes in CLASSES.items():
            for name, (methods, parameters) in classes.items():
                made = getattr(importlib.import_module("anyletter." + module), name)
                self.assertTrue(inspect.isclass(made))
                self.assertEqual(made.__module__, "anyletter." + module)
                self.assertEqual(list(inspect.signature(made).parameters), parameters)
                for method in methods:
                    self.assertIn(method, vars(made))

    def test_methods(self):
        books = importlib.import_module("anyletter.books")
        self.assertEqual(list(inspect.signature(books.Book.number).parameters), ["self", "word"])
