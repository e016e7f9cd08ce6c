"""The files of the package: the interface stands where the document lists it, and the plain bounds of the language."""

import ast
import importlib
import inspect
import os
import unittest

ROOT = os.path.dirname(os.path.dirname(os.path.abspath(__file__)))
PACKAGE = os.path.join(ROOT, "formatfit")

# What stands in each file, with the arguments of the functions.
INTERFACE = {
    "errors": {
        "FormatfitError": None, "SignError": ["place"], "LineError": ["line"], "BrokenPromise": ["version"],
        "NoSuchVersion": ["number"], "PowerCut": ["written"], "EndError": None, "BadValue": None, "BadFormat": None,
        "TooLarge": None, "CannotRead": None, "TooMany": None, "ShutError": None,
    },
    "values": {
        "is_name": ["text"], "kind_of": ["value"], "size_of": ["value"], "depth_of": ["value"], "is_value": ["value"],
        "sorted_fields": ["record"], "parts_of": ["value"], "compare_values": ["first", "second"],
        "least_of": ["values"],
    },
    "value_text": {"format_value": ["value"], "parse_value": ["text"], "value_prefix": ["text", "place"]},
}

BUILTINS = set(
    "len range enumerate zip min max sum abs sorted reversed int str bool bytes list tuple dict set frozenset"
    " isinstance ord repr any all divmod pow iter next getattr hasattr setattr super property staticmethod classmethod"
    " ValueError KeyError IndexError LookupError ZeroDivisionError StopIteration NotImplemented".split()
)


def sources():
    for name in sorted(os.listdir(PACKAGE)):
        if name.endswith(".py"):
            with open(os.path.join(PACKAGE, name), encoding="utf-8") as file:
                yield name, file.read()


class Interface(unittest.TestCase):
    def test_everything_is_defined_in_its_file(self):
        for file, names in INTERFACE.items():
            module = importlib.import_module("formatfit." + file)
            for name, arguments in names.items():
                with self.subTest(file=file, name=name):
                    found = getattr(module, name)
                    self.assertEqual(found.__module__, "formatfit." + file)
                    if arguments is not None:
                        self.assertEqual(list(inspect.signature(found).parameters), arguments)


class Files(unittest.TestCase):
    def test_the_folder_holds_python_files_alone(self):
        names = [name for name in os.listdir(PACKAGE) if name != "__pycache__"]
        self.assertIn("__init__.py", names)
        for name in names:
            self.assertRegex(name, "^[a-z0-9_]+[.]py$")

    def test_lengths_and_characters(self):
        for name, text in sources():
            with self.subTest(name=name):
                lines = text.split("\n")
                self.assertLess(len(lines), 400)
                self.assertLessEqual(max(len(line) for line in lines), 120)
                self.assertTrue(all(sign == "\n" or " " <= sign <= "~" for sign in text))
                for node in ast.walk(ast.parse(text)):
                    if isinstance(node, ast.FunctionDef):
                        self.assertLessEqual(node.end_lineno - node.lineno + 1, 40, node.name)

    def test_imports_and_builtins(self):
        for name, text in sources():
            tree = ast.parse(text)
            known = {node.name for node in tree.body if isinstance(node, (ast.FunctionDef, ast.ClassDef))}
            for node in ast.walk(tree):
                if isinstance(node, ast.ImportFrom):
                    known |= {alias.name for alias in node.names}
                    with self.subTest(name=name, line=node.lineno):
                        self.assertTrue(node.module.startswith("formatfit."))
                self.assertNotIsInstance(node, (ast.Import, ast.Global, ast.AsyncFunctionDef))
            for node in ast.walk(tree):
                if isinstance(node, ast.Call) and isinstance(node.func, ast.Name):
                    with self.subTest(name=name, line=node.lineno):
                        self.assertIn(node.func.id, known | BUILTINS)


if __name__ == "__main__":
    unittest.main()
