"""The examples of DOC.md, under the headings of its modules."""

import importlib
import inspect
import pathlib
import unittest

from anyletter.errors import LetterError

EXAMPLES = pathlib.Path(__file__).with_name("examples.txt")
MODULES = """errors checks papers texts edits ways check_ways books prices check_prices makers thick check_thick tears
machines settled copies lets check_copies plain stands runs lines programs meaning rooms rows_of ownrows healers trials
marks films""".split()


def names_of_package():
    names = {}
    for module in MODULES:
        for name, value in vars(importlib.import_module("anyletter." + module)).items():
            if inspect.isfunction(value) or inspect.isclass(value):
                names[name] = value
    return names


def examples_of(text):
    """The triples (heading, what is typed, what is answered: None for nothing)."""
    heading, asked, found = None, None, []
    for line in text.splitlines() + ["## "]:
        if asked is not None and (line.startswith((">>> ", "## ")) or not line):
            found.append((heading, asked, None))
            asked = None
        if line.startswith("## "):
            heading = line[3:]
        elif line.startswith(">>> "):
            asked = line[4:]
        elif line:
            found.append((heading, asked, line))
            asked = None
    return found


class Examples(unittest.TestCase):
    def check(self, names, asked, answer):
        if answer is None:
            exec(asked, names)
        elif answer.startswith("raises "):
            wanted = eval(answer[7:], names)
            with self.assertRaises(LetterError) as caught:
                eval(asked, names)
            self.assertIs(type(caught.exception), type(wanted))
            self.assertEqual(vars(caught.exception), vars(wanted))
        else:
            # By their spelling True is not 1 and a list is no tuple.
            self.assertEqual(repr(eval(asked, names)), repr(eval(answer, {})))

    def test_examples_answer_as_the_document_tells(self):
        names = names_of_package()
        examples = examples_of(EXAMPLES.read_text())
        headings = ["anyletter/" + module + ".py" for module in MODULES if module != "errors"]
        self.assertEqual(list(dict.fromkeys(heading for heading, _, _ in examples)), headings)
        self.assertEqual(len(examples), EXAMPLES.read_text().count(">>> "))
        for heading, asked, answer in examples:
            with self.subTest(heading=heading, asked=asked):
                self.check(names, asked, answer)
