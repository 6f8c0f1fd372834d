import inspect
import unittest

from anyletter import errors

WITH_PART = [
    "BadNumber", "BadText", "BadWord", "BadBook", "BadRow", "BadEdits", "BadMachine", "BadHeard", "BadProgram",
    "BadPaper", "Misfit",
]
FIELDS = {name: ["part"] for name in WITH_PART} | {"TooMany": ["what", "most"], "BadLine": ["line", "item"]}
# The last one cannot even be written with digits, as Python bounds them.
VALUES = ["text", "", None, 0, True, [1, [2]], ("a",), {}, b"", object(), ValueError("x"), 10**5000]


class Errors(unittest.TestCase):
    def test_the_module_has_these_classes_and_no_others(self):
        found = [name for name, value in vars(errors).items() if inspect.isclass(value)]
        self.assertEqual(sorted(found), sorted([*FIELDS, "LetterError"]))

    def test_each_stands_directly_below_the_base(self):
        self.assertEqual(errors.LetterError.__bases__, (ValueError,))
        for name in FIELDS:
            self.assertEqual(getattr(errors, name).__bases__, (errors.LetterError,))
            self.assertNotIsInstance(getattr(errors, name)(*FIELDS[name]), (LookupError, TypeError, ArithmeticError))

    def test_fields_by_place_are_kept_as_they_were_passed(self):
        for name, fields in FIELDS.items():
            for value in VALUES:
                made = getattr(errors, name)(*[value] * len(fields))
                self.assertEqual(list(vars(made)), fields)
                for field in fields:
                    self.assertIs(getattr(made, field), value)

    def test_fields_by_name(self):
        for name, fields in FIELDS.items():
            values = {field: [field] for field in fields}
            made = getattr(errors, name)(**dict(reversed(values.items())))
            for field in fields:
                self.assertIs(getattr(made, field), values[field])

    def test_fields_are_in_their_order(self):
        self.assertEqual(vars(errors.TooMany("signs", 300)), {"what": "signs", "most": 300})
        self.assertEqual(vars(errors.BadLine(3, 1)), {"line": 3, "item": 1})

    def test_too_few_or_too_many_fields_cannot_be_passed(self):
        for name, fields in FIELDS.items():
            for count in (len(fields) - 1, len(fields) + 1):
                with self.assertRaises(TypeError):
                    getattr(errors, name)(*["x"] * count)

    def test_all_are_caught_as_the_base_and_as_value_errors(self):
        for name, fields in FIELDS.items():
            for base in (errors.LetterError, ValueError):
                with self.assertRaises(base):
                    raise getattr(errors, name)(*fields)
        with self.assertRaises(ValueError):
            raise errors.LetterError("some words")
