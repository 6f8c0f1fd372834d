"""Whether the package's files keep to the subset of Python in which it is written.

Only the part of the subset that the files use is let through: what is new in a file is looked up there first.
"""

import ast
import builtins
import pathlib
import re
import unittest

PACKAGE = pathlib.Path(__file__).resolve().parent.parent / "anyletter"
FILES = sorted(path for path in PACKAGE.iterdir() if path.name != "__pycache__")

NODES = """Module Expr Constant ImportFrom alias FunctionDef ClassDef arguments arg Assign AugAssign If While For
Return Raise Break Continue Pass Delete Call Name Load Store Del Attribute Subscript Slice List Tuple Dict ListComp DictComp
comprehension BoolOp And Or UnaryOp Not USub BinOp Add Sub Mult FloorDiv Mod Compare Eq NotEq Lt LtE Gt GtE Is IsNot
In NotIn IfExp keyword Starred JoinedStr FormattedValue""".split()
BUILTINS = """len range enumerate zip min max sum abs sorted reversed int str bool list tuple dict set isinstance ord
repr any all divmod ValueError super""".split()
METHODS = """append clear copy count endswith extend find get index insert isalnum isalpha isdigit islower isspace
isupper items join keys ljust lower lstrip partition pop remove replace reverse rfind rjust rpartition rsplit rstrip
setdefault split splitlines startswith strip update upper values zfill bit_length isascii isdecimal""".split()
DUNDERS = ["__init__", "__eq__", "__bool__"]
BARRED = """register mro elements open input law version_info with_traceback add_note attrgetter breakpoint builtins
compile copyright credits delattr dir eval exec exit gc getattr globals hasattr help id importlib license locals
methodcaller os quit setattr vars sys""".split()
BARRED_WORDS = r"\b(type|typing|enum|Enum|IntEnum|Flag|Generic|Protocol|ABC|namedtuple|NamedTuple|_wall)\b|dataclass"


def trees():
    for path in FILES:
        yield path.name, ast.parse(path.read_text())


def functions_of(tree):
    return [node for node in ast.walk(tree) if isinstance(node, ast.FunctionDef)]


def module_names(tree):
    """The names that are bound outside of all functions and classes."""
    names = [node.name for node in tree.body if isinstance(node, (ast.FunctionDef, ast.ClassDef))]
    names += [alias.name for node in tree.body if isinstance(node, ast.ImportFrom) for alias in node.names]
    return names + [node.targets[0].id for node in tree.body if isinstance(node, ast.Assign)]


def without_docstrings(tree):
    for node in ast.walk(tree):
        if isinstance(node, (ast.Module, ast.ClassDef, ast.FunctionDef)) and ast.get_docstring(node) is not None:
            node.body[0].value = ast.Constant(0)
    return tree


class Language(unittest.TestCase):
    def test_files(self):
        self.assertIn("__init__.py", [path.name for path in FILES])
        for path in FILES:
            self.assertRegex(path.name, r"^([a-z][a-z0-9_]*|__init__|__main__)\.py$")
            self.assertNotIn(path.stem, [*dir(builtins), "test", "tests", "testing", "site", "conftest"])
            text = path.read_bytes()
            self.assertLessEqual(set(text), {10, *range(32, 127)}, path.name)
            lines = text.decode().splitlines()
            self.assertLessEqual(len(lines), 399, path.name)
            self.assertLessEqual(max(map(len, lines), default=0), 120, path.name)

    def test_functions_are_short(self):
        for name, tree in trees():
            for function in functions_of(tree):
                self.assertLessEqual(function.end_lineno - function.lineno + 1, 40, (name, function.name))
                self.assertEqual(function.decorator_list, [])
                for default in function.args.defaults + function.args.kw_defaults:
                    self.assertIsInstance(ast.literal_eval(default), (int, str, bool, tuple, type(None)))

    def test_only_known_syntax(self):
        for name, tree in trees():
            for node in ast.walk(tree):
                self.assertIn(type(node).__name__, NODES, (name, getattr(node, "lineno", 0)))
                if isinstance(node, ast.Compare):
                    for sign, side in zip(node.ops, node.comparators):
                        if isinstance(sign, (ast.Is, ast.IsNot)):
                            self.assertIsInstance(side, ast.Constant, (name, node.lineno))
                if isinstance(node, ast.Constant):
                    self.assertNotIsInstance(node.value, (float, complex))
                    self.assertFalse(isinstance(node.value, str) and "%" in node.value, (name, node.lineno))

    def test_modules_hold_definitions_alone(self):
        for name, tree in trees():
            bound = []
            for place, node in enumerate(tree.body):
                if isinstance(node, ast.Expr):
                    self.assertTrue(place == 0 and isinstance(node.value.value, str))
                elif isinstance(node, ast.Assign):
                    if isinstance(node.value, ast.Dict) and isinstance(node.value.values[0], ast.Name):
                        # A table of functions that are defined above.
                        self.assertLessEqual({value.id for value in node.value.values}, set(bound), name)
                        ast.literal_eval(ast.Tuple(node.value.keys, ast.Load()))
                    else:
                        self.assertIsInstance(ast.literal_eval(node.value), (int, str, tuple, list, dict))
                    bound += [target.id for target in node.targets]
                elif isinstance(node, ast.ImportFrom):
                    bound += [alias.name for alias in node.names]
                else:
                    self.assertIsInstance(node, (ast.FunctionDef, ast.ClassDef), name)
                    bound.append(node.name)
            self.assertEqual(len(bound), len(set(bound)), name)

    def test_imports_name_the_file_that_defines_the_name(self):
        defined, imports = {}, {}
        for name, tree in trees():
            module = "anyletter." + name[:-3]
            defined[module] = [node.name for node in tree.body if isinstance(node, (ast.FunctionDef, ast.ClassDef))]
            defined[module] += [node.targets[0].id for node in tree.body if isinstance(node, ast.Assign)]
            imports[module] = [node for node in ast.walk(tree) if isinstance(node, ast.ImportFrom)]
            first = [place for place, node in enumerate(tree.body) if not isinstance(node, (ast.Expr, ast.ImportFrom))]
            last = [place for place, node in enumerate(tree.body) if isinstance(node, ast.ImportFrom)]
            self.assertTrue(not first or not last or last[-1] < first[0], name)
        for nodes in imports.values():
            for node in nodes:
                self.assertEqual((node.level, [alias.asname for alias in node.names]), (0, [None] * len(node.names)))
                for alias in node.names:
                    self.assertIn(alias.name, defined[node.module])
        done = []
        while len(done) < len(imports):
            free = [module for module in imports if module not in done]
            free = [module for module in free if all(node.module in done for node in imports[module])]
            self.assertTrue(free, "files import from each other in a circle")
            done += free

    def test_no_import_is_idle(self):
        for name, tree in trees():
            used = {node.id for node in ast.walk(tree) if isinstance(node, ast.Name)}
            for node in ast.walk(tree):
                if isinstance(node, ast.ImportFrom):
                    self.assertLessEqual({alias.name for alias in node.names}, used, name)

    def test_names(self):
        for name, tree in trees():
            classes = [node.name for node in tree.body if isinstance(node, ast.ClassDef)]
            taken = [alias.name for node in tree.body if isinstance(node, ast.ImportFrom) for alias in node.names]
            bound = [node.name for node in tree.body if isinstance(node, (ast.FunctionDef, ast.ClassDef))]
            local = [node.arg for node in ast.walk(tree) if isinstance(node, (ast.arg, ast.keyword))]
            local += [node.id for node in ast.walk(tree) if isinstance(node, ast.Name) and isinstance(node.ctx, ast.Store)]
            for word in bound + local:
                self.assertRegex(word, r"^(_|_?[A-Za-z][A-Za-z0-9_]*)$")
                self.assertNotIn(word, BARRED, name)
                self.assertNotIn(word, [word for word in dir(builtins) if word not in ("start", "key")], name)
            for word in local:
                if word not in ("key", "reverse", "start"):
                    self.assertNotIn(word, classes + taken, name)
            for function in functions_of(tree):
                if function.name.startswith("__"):
                    self.assertIn(function.name, DUNDERS)

    def test_only_known_builtins_and_methods(self):
        own = [function.name for _, tree in trees() for function in functions_of(tree)]
        for name, tree in trees():
            known = [node.id for node in ast.walk(tree) if isinstance(node, ast.Name) and isinstance(node.ctx, ast.Store)]
            known += [node.arg for node in ast.walk(tree) if isinstance(node, ast.arg)]
            known += [alias.name for node in ast.walk(tree) if isinstance(node, ast.ImportFrom) for alias in node.names]
            known += [node.name for node in tree.body if isinstance(node, (ast.FunctionDef, ast.ClassDef))]
            for node in ast.walk(tree):
                if isinstance(node, ast.Name) and node.id not in known:
                    self.assertIn(node.id, BUILTINS, (name, node.lineno))
                if isinstance(node, ast.Call) and isinstance(node.func, ast.Attribute):
                    self.assertIn(node.func.attr, METHODS + own, (name, node.lineno))
                if isinstance(node, ast.Attribute) and node.attr.startswith("_"):
                    self.assertIn(node.attr, ["__class__", "__name__", "__init__"], (name, node.lineno))

    def test_calls_of_builtins(self):
        for name, tree in trees():
            for node in ast.walk(tree):
                if isinstance(node, ast.Call) and isinstance(node.func, ast.Name) and node.func.id in BUILTINS:
                    words = {keyword.arg for keyword in node.keywords}
                    self.assertLessEqual(words, {"key", "reverse", "default", "start", "strict"}, (name, node.lineno))
                    # Some classes have their own equality: these then take lists.
                    for value in node.args:
                        self.assertNotIsInstance(value, (ast.GeneratorExp, ast.Starred), (name, node.lineno))

    def test_sets_are_measured_at_once(self):
        for name, tree in trees():
            allowed = []
            for node in ast.walk(tree):
                if isinstance(node, ast.Call) and getattr(node.func, "id", "") in ("len", "sorted"):
                    allowed += node.args
            for node in ast.walk(tree):
                if isinstance(node, ast.Call) and getattr(node.func, "id", "") == "set":
                    self.assertIn(node, allowed, (name, node.lineno))

    def test_attributes_that_are_read_are_assigned(self):
        assigned, read, methods = set(), {}, set()
        for name, tree in trees():
            methods |= {function.name for function in functions_of(tree)}
            for node in ast.walk(tree):
                if isinstance(node, ast.Attribute):
                    if isinstance(node.ctx, ast.Store):
                        self.assertNotIn(node.value.id, module_names(tree))
                        assigned.add(node.attr)
                    elif node.attr not in METHODS:
                        read.setdefault(node.attr, (name, node.lineno))
        for attribute in read:
            self.assertIn(attribute, [*assigned, *methods, "__class__", "__name__", "__init__"], read[attribute])
        self.assertFalse(assigned & set(METHODS))

    def test_errors_are_raised_on_the_spot(self):
        for name, tree in trees():
            for node in ast.walk(tree):
                if isinstance(node, ast.Raise):
                    self.assertTrue(isinstance(node.exc, ast.Call) and isinstance(node.exc.func, ast.Name), name)
                    self.assertEqual(node.exc.keywords, [])

    def test_barred_words(self):
        for name, tree in trees():
            code = ast.unparse(without_docstrings(tree))
            self.assertIsNone(re.search(BARRED_WORDS, code), name)
            for node in ast.walk(tree):
                if isinstance(node, ast.Attribute):
                    self.assertNotIn(node.attr, BARRED[:9])

    def test_loops_do_not_change_what_they_go_over(self):
        for name, tree in trees():
            for loop in [node for node in ast.walk(tree) if isinstance(node, ast.For)]:
                over = {node.id for node in ast.walk(loop.iter) if isinstance(node, ast.Name)}
                for node in [part for line in loop.body for part in ast.walk(line)]:
                    changes = isinstance(node, ast.Call) and isinstance(node.func, ast.Attribute)
                    if changes and node.func.attr in ("append", "extend", "pop", "insert", "remove", "clear", "update"):
                        self.assertNotIn(getattr(node.func.value, "id", None), over, (name, node.lineno))
                    if isinstance(node, ast.Subscript) and isinstance(node.ctx, ast.Store):
                        self.assertNotIn(getattr(node.value, "id", None), over, (name, node.lineno))
