"""The interface's names and arguments, and those rules for the code that a test can see."""

import ast
import importlib
import inspect
import pathlib
import re
import unittest

PACKAGE = pathlib.Path(__file__).resolve().parent.parent / "crankdrum"
FILES = sorted(PACKAGE.glob("*.py"))

INTERFACE = {
    "machines": {
        "need_machine": ["machine"],
        "top": ["machine"],
        "begin": ["machine"],
        "told": ["base", "figures"],
        "figures_of": ["base", "number", "many"],
    },
    "wheels": {
        "spun": ["machine", "stand", "way"],
        "carried": ["machine", "wheels", "levers", "wheel", "way"],
        "settled": ["machine", "wheels", "levers", "order", "way"],
    },
    "deeds": {"done": ["machine", "stand", "deed"]},
    "books": {"need_book": ["machine", "book"]},
    "working": {"worked": ["machine", "book", "values"]},
    "looking": {"looked": ["machine", "book"]},
    "manuals": {
        "product": ["machine", "one", "other"],
        "quotient": ["machine", "one", "other"],
        "root": ["machine", "one"],
    },
}

ERRORS = {"DrumError", "BadMachine", "BadDeed", "BadBook", "BadValue", "Stuck", "TooSmall"}

BARRED_WORDS = (
    "type", "typing", "typing_extensions", "enum", "Enum", "IntEnum", "StrEnum", "Flag", "IntFlag", "Generic",
    "Protocol", "ABC", "ABCMeta", "namedtuple", "NamedTuple", "TypedDict", "TYPE_CHECKING", "abstractmethod",
)

BUILTINS = {
    "len", "range", "enumerate", "zip", "min", "max", "sum", "abs", "sorted", "reversed", "int", "str", "bool",
    "list", "tuple", "dict", "set", "isinstance", "ord", "repr", "any", "all", "divmod", "ValueError",
}


def tree(file):
    return ast.parse(file.read_text(encoding="utf-8"))


def nodes(file, kinds):
    return [node for node in ast.walk(tree(file)) if isinstance(node, kinds)]


def defined(file):
    """The names of a file's functions, classes and values, not those that it imports."""
    names = {part.name for part in tree(file).body if hasattr(part, "name")}
    return names | {part.targets[0].id for part in tree(file).body if isinstance(part, ast.Assign)}


def imported(file):
    return [alias.name for node in nodes(file, ast.ImportFrom) for alias in node.names]


class Interface(unittest.TestCase):
    def test_functions_stand_in_their_files_with_their_arguments(self):
        for name, functions in INTERFACE.items():
            module = importlib.import_module(f"crankdrum.{name}")
            for function, arguments in functions.items():
                found = getattr(module, function)
                self.assertEqual(found.__module__, f"crankdrum.{name}")
                self.assertEqual(list(inspect.signature(found).parameters), arguments)

    def test_error_classes_stand_in_their_file(self):
        module = importlib.import_module("crankdrum.errors")
        self.assertEqual({node.name for node in tree(PACKAGE / "errors.py").body if hasattr(node, "name")}, ERRORS)
        for name in ERRORS:
            self.assertEqual(getattr(module, name).__module__, "crankdrum.errors")


class Rules(unittest.TestCase):
    def test_the_package_is_one_folder_of_python_files(self):
        names = sorted(path.name for path in PACKAGE.iterdir() if path.name != "__pycache__")
        self.assertEqual(names, [file.name for file in FILES])
        self.assertIn("__init__.py", names)
        for name in names:
            self.assertRegex(name, r"\A[a-z0-9_]+\.py\Z")

    def test_sizes_and_characters(self):
        for file in FILES:
            text = file.read_text(encoding="utf-8")
            self.assertRegex(text, r"\A[\n -~]*\Z", file.name)
            self.assertLess(text.count("\n"), 400, file.name)
            self.assertLessEqual(max(len(line) for line in text.split("\n")), 120, file.name)
            for node in nodes(file, (ast.FunctionDef, ast.Lambda)):
                self.assertLessEqual(node.end_lineno - node.lineno + 1, 40, (file.name, node.lineno))

    def test_no_barred_words(self):
        for file in FILES:
            words = set(re.findall(r"\w+", file.read_text(encoding="utf-8")))
            self.assertEqual(words & set(BARRED_WORDS), set(), file.name)

    def test_imports_are_from_the_package_by_full_names(self):
        for file in FILES:
            self.assertEqual(nodes(file, ast.Import), [], file.name)
            for node in nodes(file, ast.ImportFrom):
                self.assertEqual(node.level, 0, file.name)
                self.assertRegex(node.module, r"\Acrankdrum\.[a-z]+\Z")
                self.assertLessEqual({alias.name for alias in node.names}, defined(PACKAGE / f"{node.module[10:]}.py"))
                self.assertEqual([alias.asname for alias in node.names if alias.asname], [], file.name)

    def test_module_level_has_only_imports_functions_classes_and_plain_names(self):
        for file in FILES:
            body = tree(file).body
            self.assertIsInstance(body[0], ast.Expr, f"{file.name} has a docstring")
            for node in body[1:]:
                self.assertIsInstance(node, (ast.ImportFrom, ast.FunctionDef, ast.ClassDef, ast.Assign), file.name)

    def test_no_two_files_import_from_each_other(self):
        done, left = set(), {file.stem: {node.module[10:] for node in nodes(file, ast.ImportFrom)} for file in FILES}
        while left:
            free = [stem for stem, needed in left.items() if needed <= done]
            self.assertNotEqual(free, [], left)
            done |= set(free)
            left = {stem: needed for stem, needed in left.items() if stem not in free}

    def test_a_name_is_bound_once_at_module_level_and_imports_are_not_hidden(self):
        for file in FILES:
            bound = imported(file) + [part.name for part in tree(file).body if hasattr(part, "name")]
            bound += [part.targets[0].id for part in tree(file).body if isinstance(part, ast.Assign)]
            self.assertEqual(sorted(bound), sorted(set(bound)), file.name)
            local = {node.arg for node in nodes(file, ast.arg)}
            local |= {node.id for node in nodes(file, ast.Name) if isinstance(node.ctx, ast.Store)}
            local |= {node.name for node in nodes(file, (ast.MatchAs, ast.MatchStar)) if node.name}
            classes = {part.name for part in tree(file).body if isinstance(part, ast.ClassDef)}
            self.assertEqual(local & (set(imported(file)) | classes), set(), file.name)

    def test_functions_use_all_that_is_imported(self):
        for file in FILES:
            used = {node.id for node in nodes(file, ast.Name)}
            self.assertLessEqual(set(imported(file)), used, file.name)

    def test_patterns_are_plain(self):
        for file in FILES:
            for node in nodes(file, ast.match_case):
                wild = [part for part in ast.walk(node.pattern) if isinstance(part, ast.MatchAs) and part.name is None]
                self.assertEqual(wild, [], (file.name, node.pattern.lineno))
            self.assertEqual(nodes(file, (ast.MatchClass, ast.MatchMapping)), [], file.name)

    def test_no_name_is_a_method_and_an_attribute(self):
        methods, stored, read = set(), set(), set()
        for file in FILES:
            for part in nodes(file, ast.ClassDef):
                methods |= {row.name for row in part.body if isinstance(row, ast.FunctionDef)}
            for node in nodes(file, ast.Attribute):
                (stored if isinstance(node.ctx, ast.Store) else read).add(node.attr)
        self.assertEqual(methods & stored, set())
        self.assertLessEqual(read - methods - stored, {"append", "get", "items"})

    def test_powers_have_literal_exponents_and_nothing_is_a_fraction(self):
        for file in FILES:
            self.assertEqual([node.lineno for node in nodes(file, ast.Div)], [], file.name)
            for node in nodes(file, ast.Constant):
                self.assertNotIsInstance(node.value, float)
            for node in nodes(file, ast.BinOp):
                if isinstance(node.op, ast.Pow):
                    self.assertIsInstance(node.right, ast.Constant, (file.name, node.lineno))

    def test_names_are_plain_and_builtins_are_those_allowed(self):
        known = set(dir(__import__("builtins")))
        for file in FILES:
            for node in nodes(file, ast.Name):
                self.assertFalse(node.id.startswith("_"), (file.name, node.lineno))
                if isinstance(node.ctx, ast.Store):
                    self.assertNotIn(node.id, known, (file.name, node.lineno))
                elif node.id in known:
                    self.assertIn(node.id, BUILTINS, (file.name, node.lineno))
            for node in nodes(file, ast.arg):
                self.assertNotIn(node.arg, known, (file.name, node.lineno))
