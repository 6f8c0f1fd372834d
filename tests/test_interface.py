"""The names and parameters that the document lists, each defined in the file under which it is listed."""

import importlib
import inspect
import unittest

from anyletter.papers import Denial, Paper, fixed

FUNCTIONS = {
    "checks": {
        "is_integer": ["value"], "is_within": ["value", "least", "most"], "are_integers": ["value"],
        "is_word": ["value"], "is_sign": ["value"], "is_text": ["value"],
    },
    "papers": {"fixed": ["value"]},
    "texts": {"items_of": ["text"], "begins_of": ["text"]},
    "edits": {"damaged": ["text", "edits"], "undone": ["text", "edits"], "untouched": ["text", "edits"]},
    "ways": {
        "least_edits": ["one", "other"], "edits_between": ["one", "other"], "around": ["text", "signs", "many"],
    },
    "check_ways": {"shows_ways": ["one", "other", "value"]},
    "books": {"spelled": ["book", "row", "copies"], "read": ["book", "text"]},
    "prices": {"made_words": ["book", "many"], "price": ["book"], "price_of": ["book"]},
    "check_prices": {"shows_price": ["book", "value"]},
    "makers": {"grown": ["words", "least"]},
    "thick": {"reads_thickly": ["row", "other"], "judged_book": ["book", "copies", "many"]},
    "check_thick": {"shows_book": ["book", "copies", "many", "value"]},
    "tears": {
        "torn": ["text", "at", "signs", "other"], "touched_most": ["length", "signs"],
        "copies_for_tear": ["book", "signs"],
    },
    "settled": {"settles": ["machine", "number"]},
    "copies": {"copies_for": ["machine", "many"], "judged_text": ["machine", "copies", "many"]},
    "lets": {"judged_machine": ["machine", "many"]},
    "check_copies": {
        "shows_copies": ["machine", "many", "value"], "shows_text": ["machine", "copies", "many", "value"],
        "shows_machine": ["machine", "many", "value"],
    },
    "plain": {"plain_words": [], "plain_book": []},
    "stands": {"begun": [], "done_word": ["stand", "number", "heard"], "passed": ["stand", "row", "heard"]},
    "runs": {"run_row": ["row", "heard", "passes"], "run_text": ["text", "heard", "passes"], "blocks_of": ["row"]},
    "lines": {"is_name": ["value"], "is_plain": ["value"], "parts_of": ["line"], "line_of": ["parts"]},
    "meaning": {
        "played": ["program", "heard", "steps", "own"], "traced": ["program", "heard", "steps", "own"],
        "left_by": ["program", "heard", "steps", "own"],
    },
    "rooms": {"rooms": ["program"]},
    "rows_of": {"row_of": ["program"], "text_of": ["program", "many"]},
    "ownrows": {"own_row": ["program"]},
    "healers": {"asker": [], "healer": [], "healed": ["text", "many", "passes"]},
    "trials": {
        "trial": ["program", "many", "edits", "heard", "passes"], "breaking": ["program", "heard", "passes"],
        "parted_at": ["text", "other", "heard", "passes"],
    },
    "marks": {"marks_of": ["text", "edits"]},
    "films": {"film_of": ["text", "heard", "passes"]},
}
# For each class the methods that it defines itself, and the parameters with which it is called.
CLASSES = {
    "papers": {
        "Paper": (["__init__", "__eq__", "__bool__"], ["word", "parts"]),
        "Denial": (["__init__", "__eq__", "__bool__"], ["word", "parts"]),
    },
    "ways": {"Ways": (["__init__"], ["edits"])},
    "books": {"Book": (["__init__", "__eq__", "number"], ["words"])},
    "prices": {"Strange": (["__init__"], ["row", "edits", "made"]), "Alone": (["__init__"], [])},
    "thick": {"Thick": (["__init__"], ["price"]), "Broken": (["__init__"], ["row", "edits"])},
    "machines": {"Machine": (["__init__", "__eq__", "done", "done_text"], ["book", "deeds"])},
    "copies": {
        "Copies": (["__init__"], ["numbers"]), "Stands": (["__init__"], []),
        "GoesRound": (["__init__"], ["number", "start"]), "Parts": (["__init__"], ["row", "start", "edits"]),
    },
    "lets": {"Lets": (["__init__"], []), "Differs": (["__init__"], ["row", "start", "edits"])},
    "stands": {
        "Stand": (
            ["__init__", "__eq__", "cell"],
            "block room tick flag test mode first second cells heard said is_done".split(),
        ),
    },
    "runs": {"Run": (["__init__"], ["outcome", "said", "passes"])},
    "programs": {"Program": (["__init__", "__eq__", "parts_at"], ["lines"])},
    "meaning": {"Played": (["__init__"], ["outcome", "said", "steps"])},
    "trials": {"Trial": (["__init__"], ["sound", "hurt"])},
}
METHODS = {
    "books": {"Book.number": ["word"]},
    "machines": {"Machine.done": ["row", "start"], "Machine.done_text": ["text", "start"]},
    "stands": {"Stand.cell": ["place"]},
    "programs": {"Program.parts_at": ["line"]},
}
# The papers that say no; all others say yes.
DENIALS = ["Alone", "Broken", "GoesRound", "Parts", "Differs"]


# All papers that the document names.
PAPERS = """Paper Denial Ways Strange Alone Thick Broken Copies Stands GoesRound Parts Lets Differs Run Played Trial""".split()


class Interface(unittest.TestCase):
    def test_functions(self):
        for module, functions in FUNCTIONS.items():
            for name, parameters in functions.items():
                function = getattr(importlib.import_module("anyletter." + module), name)
                self.assertTrue(inspect.isfunction(function))
                self.assertEqual(function.__module__, "anyletter." + module)
                self.assertEqual(list(inspect.signature(function).parameters), parameters)

    def test_classes(self):
        for module, classes in CLASSES.items():
            for name, (methods, parameters) in classes.items():
                made = getattr(importlib.import_module("anyletter." + module), name)
                self.assertTrue(inspect.isclass(made))
                self.assertEqual(made.__module__, "anyletter." + module)
                self.assertEqual(list(inspect.signature(made).parameters), parameters)
                for method in methods:
                    self.assertIn(method, vars(made))

    def test_methods(self):
        for module, methods in METHODS.items():
            for name, parameters in methods.items():
                made, method = name.split(".")
                found = vars(getattr(importlib.import_module("anyletter." + module), made))[method]
                self.assertEqual(list(inspect.signature(found).parameters), ["self"] + parameters)

    def test_all_papers_are_there(self):
        self.assertEqual([name for classes in CLASSES.values() for name in classes if name not in ("Book", "Machine", "Stand", "Program")], PAPERS)

    def test_papers(self):
        for module, classes in CLASSES.items():
            for name, (_, parameters) in classes.items():
                made = getattr(importlib.import_module("anyletter." + module), name)
                if not issubclass(made, Paper) or made in (Paper, Denial):
                    continue
                self.assertIs(issubclass(made, Denial), name in DENIALS)
                parts = [[place, [place]] for place in range(len(parameters))]
                told, other = made(*parts), made(**dict(zip(parameters, parts)))
                self.assertEqual((told.word, told.parts), (name.lower(), fixed(parts)))
                self.assertEqual([getattr(told, parameter) for parameter in parameters], list(fixed(parts)))
                self.assertIs(told == other, True)
                self.assertIs(bool(told), name not in DENIALS)
                self.assertIs(told == Paper(name.lower(), *parts), False)
                for place in range(len(parts)):
                    self.assertIs(told == made(*[*parts[:place], None, *parts[place + 1:]]), False)
