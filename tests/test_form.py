"""The interface as it is listed, and the rules of the language that can be seen in the files."""

import ast
import builtins
import importlib
import inspect
import os
import re
import unittest

ROOT = os.path.dirname(os.path.dirname(os.path.abspath(__file__)))
PACKAGE = os.path.join(ROOT, "placetale")

FUNCTIONS = {
    "playing": {
        "begin": ["tale"], "deeds_at": ["tale", "state"], "done": ["tale", "state", "deed"],
        "is_won": ["tale", "state"], "played": ["tale", "deeds"],
    },
    "walks": {"shortest": ["tale"], "walkthroughs": ["tale", "most"]},
    "ends": {"dead": ["tale"], "spoils": ["tale"], "barred": ["tale"], "needful": ["tale"]},
    "likeness": {"parted": ["one", "other"]},
    "texts": {"written": ["tale"], "read": ["text"]},
}
CLASSES = {
    "errors": {"TaleError": {}, "BadTale": {}, "BadText": {}, "NoDeed": {}, "TooMany": {}},
    "tales": {"Tale": {"__init__": ["self", "hands", "rooms", "ways", "things", "flags", "rules", "wish"]}},
    "maps": {"Map": {"__init__": ["self", "tale"], "states": ["self"], "steps": ["self", "number"],
                     "walk_to": ["self", "number"], "won": ["self"]}},
}

BUILTINS = (
    "len range enumerate zip min max sum abs sorted reversed int str bool list tuple dict set isinstance ord repr any "
    "all divmod ValueError KeyError IndexError LookupError super"
).split()
BARRED_NODES = (
    ast.Global, ast.AsyncFunctionDef, ast.AsyncFor, ast.AsyncWith, ast.Await, ast.Import, ast.Div, ast.Lambda,
    ast.Yield, ast.YieldFrom, ast.GeneratorExp,
)
BARRED_WORDS = (
    "type typing enum Enum IntEnum StrEnum Flag IntFlag Generic Protocol ABC ABCMeta namedtuple NamedTuple TypedDict "
    "register mro elements open input law version_info"
).split()


def package_files():
    return sorted(name for name in os.listdir(PACKAGE) if name != "__pycache__")


def text_of(name):
    with open(os.path.join(PACKAGE, name), encoding="utf-8", newline="") as file:
        return file.read()


class Interface(unittest.TestCase):
    def test_functions(self):
        for file, functions in FUNCTIONS.items():
            module = importlib.import_module("placetale." + file)
            for name, arguments in functions.items():
                function = getattr(module, name)
                self.assertEqual(function.__module__, module.__name__)
                self.assertEqual(list(inspect.signature(function).parameters), arguments)

    def test_classes_and_their_own_methods(self):
        for file, classes in CLASSES.items():
            module = importlib.import_module("placetale." + file)
            for name, methods in classes.items():
                self.assertEqual(getattr(module, name).__module__, module.__name__)
                for method, arguments in methods.items():
                    own = vars(getattr(module, name))[method]
                    self.assertEqual(list(inspect.signature(own).parameters), arguments)


class Language(unittest.TestCase):
    def test_the_package_holds_plain_files_alone(self):
        for name in package_files():
            self.assertRegex(name, r"\A[a-z_]+\.py\Z")

    def test_sizes_and_signs(self):
        for name in package_files():
            text = text_of(name)
            self.assertRegex(text, r"\A[ -~\n]*\Z", name)
            self.assertLessEqual(len(text.splitlines()), 399, name)
            self.assertLessEqual(max(len(line) for line in text.splitlines()), 120, name)
            for node in ast.walk(ast.parse(text)):
                if isinstance(node, ast.FunctionDef):
                    self.assertLessEqual(node.end_lineno - node.lineno + 1, 40, node.name)

    def test_imports(self):
        for name in package_files():
            for node in ast.walk(ast.parse(text_of(name))):
                if isinstance(node, ast.ImportFrom):
                    self.assertEqual(node.level, 0)
                    file = node.module.split(".")
                    self.assertEqual((len(file), file[0]), (2, "placetale"))
                    defined = ast.parse(text_of(file[1] + ".py")).body
                    names = [part.name for part in defined if isinstance(part, (ast.FunctionDef, ast.ClassDef))]
                    for told in node.names:
                        self.assertIn(told.name, names)
                        self.assertIsNone(told.asname)

    def test_words(self):
        for name in package_files():
            for node in ast.walk(ast.parse(text_of(name))):
                self.assertNotIsInstance(node, BARRED_NODES, name)
                if isinstance(node, ast.Constant):
                    self.assertNotIsInstance(node.value, float, name)
                    self.assertNotIn("%", str(node.value), name)
                if isinstance(node, ast.Name) and hasattr(builtins, node.id):
                    self.assertIn(node.id, BUILTINS, name)
                    self.assertIsInstance(node.ctx, ast.Load, name)
                if isinstance(node, ast.arg):
                    self.assertFalse(hasattr(builtins, node.arg), name)

    def test_barred_words(self):
        for name in package_files():
            tree = ast.parse(text_of(name))
            for node in ast.walk(tree):
                if isinstance(node, (ast.Module, ast.ClassDef, ast.FunctionDef)) and ast.get_docstring(node):
                    node.body = node.body[1:] or [ast.Pass()]
            words = re.findall(r"\w+", ast.unparse(tree))
            self.assertEqual([word for word in words if word in BARRED_WORDS], [], name)


if __name__ == "__main__":
    unittest.main()
