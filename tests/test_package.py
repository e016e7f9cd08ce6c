"""The files of the package: the interface stands where the document lists it, and the plain bounds of the language."""

import ast
import builtins
import importlib
import inspect
import os
import re
import unittest

ROOT = os.path.dirname(os.path.dirname(os.path.abspath(__file__)))
PACKAGE = os.path.join(ROOT, "formatfit")

# What stands in each file, with the arguments of the functions.
INTERFACE = {
    "errors": {
        "FormatfitError": None, "SignError": ["place"], "LineError": ["line"], "BrokenPromise": ["version"],
        "NoSuchVersion": ["number"], "PowerCut": ["written"], "EndError": None, "BadValue": None, "BadFormat": None,
        "TooLarge": None, "CannotRead": None, "TooMany": None, "ShutError": None,
    },
    "values": {
        "is_name": ["text"], "kind_of": ["value"], "size_of": ["value"], "depth_of": ["value"], "is_value": ["value"],
        "sorted_fields": ["record"], "parts_of": ["value"], "compare_values": ["first", "second"],
        "least_of": ["values"],
    },
    "value_text": {"format_value": ["value"], "parse_value": ["text"], "value_prefix": ["text", "place"]},
    "formats": {
        "Format": ["root", "definitions"], "types_of": ["definition"], "is_shaped": ["form"],
        "field_of": ["definition", "name"], "case_of": ["definition", "tag"], "is_always": ["field"],
        "always_types": ["definition"],
    },
    "writing": {
        "writes": ["form", "name", "value"], "is_written": ["form", "value"], "is_kind": ["definition", "value"],
        "is_format": ["form"], "checked": ["form"],
    },
    "format_text": {"format_text": ["form"], "parse_format": ["text"]},
    "least": {
        "has_values": ["form", "name"], "names_without_values": ["form"], "least_value": ["form"],
        "second_value": ["form"], "least_of_name": ["form", "name"], "second_of_name": ["form", "name"],
        "least_values": ["form"], "second_values": ["form"],
    },
    "reading": {"read": ["form", "value"], "read_by": ["form", "name", "value"], "read_along": ["forms", "value"]},
    "compatibility": {"can_read": ["reader", "writer"], "smallest_failure": ["reader", "writer"]},
    "certificates": {
        "met_pairs": ["reader", "writer"], "certify": ["reader", "writer"],
        "is_certificate": ["reader", "writer", "certificate"],
    },
    "sources": {"smallest_source": ["reader", "writer", "value"]},
    "loss": {
        "smallest_confusion": ["reader", "writer"], "is_lossless": ["reader", "writer"],
        "dropped_fields": ["reader", "writer"], "unknown_tags": ["reader", "writer"],
    },
    "common": {"common_format": ["first", "second"]},
    "likeness": {"is_same": ["first", "second"], "smallest_difference": ["first", "second"]},
    "smaller": {"reached": ["form"], "classes": ["form"], "smaller_format": ["form"]},
    "registry": {"Registry": ["promise", "scope"]},
    "journal": {
        "record_of": ["text"], "recovered": ["octets"], "Device": ["octets", "power"],
        "JournaledRegistry": ["registry", "device"], "opened": ["promise", "scope", "octets", "power"],
    },
}

# What is defined in the body of each class, with the arguments.
METHODS = {
    ("formats", "Format"): {"of": ["self", "name"], "names": ["self"]},
    ("registry", "Registry"): {
        "count": ["self"], "admit": ["self", "form"], "withdraw": ["self"], "version": ["self", "number"],
        "carry": ["self", "value", "start", "end"], "fork": ["self"],
    },
    ("journal", "Device"): {"append": ["self", "octet"]},
    ("journal", "JournaledRegistry"): {"admit": ["self", "form"], "withdraw": ["self"]},
}

# The fields that are set when an object is created with these arguments.
FIELDS = {
    ("errors", "SignError"): ([3], ["place"]), ("errors", "LineError"): ([3], ["line"]),
    ("errors", "BrokenPromise"): ([3], ["version"]), ("errors", "NoSuchVersion"): ([3], ["number"]),
    ("errors", "PowerCut"): ([3], ["written"]), ("formats", "Format"): (["a", {}], ["root", "definitions"]),
    ("registry", "Registry"): (["both", "all"], ["promise", "scope", "versions"]),
    ("journal", "Device"): ([[], 1], ["octets", "power"]),
    ("journal", "JournaledRegistry"): ([None, None], ["registry", "device", "shut"]),
}

# What may be imported from elsewhere.
LIBRARY = {"heapq": {"heappush", "heappop"}}

# Names that nothing may have.
BARRED = set(
    "register mro elements open input law version_info with_traceback add_note attrgetter breakpoint builtins compile"
    " copyright credits delattr dir eval exec exit gc globals help id importlib license locals methodcaller os quit sys"
    " type vars".split()
)
BARRED_WORDS = re.compile(
    r"\b(type|typing|enum|Enum|Flag|Generic|Protocol|ABC|namedtuple|NamedTuple|TypedDict)\b|dataclass|overload"
)

BUILTINS = set(
    "len range enumerate zip min max sum abs sorted reversed int str bool bytes list tuple dict set frozenset"
    " isinstance ord repr any all divmod pow iter next getattr hasattr setattr super property staticmethod classmethod"
    " ValueError KeyError IndexError LookupError ZeroDivisionError StopIteration NotImplemented".split()
)


def known_names(imported):
    return {alias.name for alias in imported.names}


def bound_names(tree):
    """The names of parameters and of all that is assigned, in functions and outside."""
    for node in ast.walk(tree):
        if isinstance(node, ast.arg):
            yield node.arg, node.lineno
        elif isinstance(node, ast.Name) and isinstance(node.ctx, ast.Store):
            yield node.id, node.lineno
        elif isinstance(node, (ast.FunctionDef, ast.ClassDef)):
            yield node.name, node.lineno


def sources():
    for name in sorted(os.listdir(PACKAGE)):
        if name.endswith(".py"):
            with open(os.path.join(PACKAGE, name), encoding="utf-8") as file:
                yield name, file.read()


class Interface(unittest.TestCase):
    def test_everything_is_defined_in_its_file(self):
        for file, names in INTERFACE.items():
            module = importlib.import_module("formatfit." + file)
            for name, arguments in names.items():
                with self.subTest(file=file, name=name):
                    found = getattr(module, name)
                    self.assertEqual(found.__module__, "formatfit." + file)
                    if arguments is not None:
                        self.assertEqual(list(inspect.signature(found).parameters), arguments)

    def test_methods_stand_in_the_class_itself(self):
        for (file, name), methods in METHODS.items():
            found = vars(getattr(importlib.import_module("formatfit." + file), name))
            for method, arguments in methods.items():
                with self.subTest(file=file, name=name, method=method):
                    self.assertEqual(list(inspect.signature(found[method]).parameters), arguments)


    def test_fields_are_set_when_an_object_is_created(self):
        for (file, name), (arguments, fields) in FIELDS.items():
            made = getattr(importlib.import_module("formatfit." + file), name)(*arguments)
            with self.subTest(file=file, name=name):
                self.assertEqual([field for field in fields if field not in vars(made)], [])


class Files(unittest.TestCase):
    def test_the_folder_holds_python_files_alone(self):
        names = [name for name in os.listdir(PACKAGE) if name != "__pycache__"]
        self.assertIn("__init__.py", names)
        for name in names:
            self.assertRegex(name, "^[a-z0-9_]+[.]py$")

    def test_lengths_and_characters(self):
        for name, text in sources():
            with self.subTest(name=name):
                lines = text.split("\n")
                self.assertLess(len(lines), 400)
                self.assertLessEqual(max(len(line) for line in lines), 120)
                self.assertTrue(all(sign == "\n" or " " <= sign <= "~" for sign in text))
                for node in ast.walk(ast.parse(text)):
                    if isinstance(node, ast.FunctionDef):
                        self.assertLessEqual(node.end_lineno - node.lineno + 1, 40, node.name)

    def test_imports_and_builtins(self):
        for name, text in sources():
            tree = ast.parse(text)
            known = {node.name for node in tree.body if isinstance(node, (ast.FunctionDef, ast.ClassDef))}
            for node in ast.walk(tree):
                if isinstance(node, ast.ImportFrom):
                    known |= {alias.name for alias in node.names}
                    with self.subTest(name=name, line=node.lineno):
                        allowed = LIBRARY.get(node.module, set())
                        self.assertTrue(node.module.startswith("formatfit.") or known_names(node) <= allowed)
                self.assertNotIsInstance(node, (ast.Import, ast.Global, ast.AsyncFunctionDef))
            # A parameter can be a function.
            known |= {node.arg for node in ast.walk(tree) if isinstance(node, ast.arg)}
            for node in ast.walk(tree):
                if isinstance(node, ast.Call) and isinstance(node.func, ast.Name):
                    with self.subTest(name=name, line=node.lineno):
                        self.assertIn(node.func.id, known | BUILTINS)

    def test_names(self):
        for file, text in sources():
            tree = ast.parse(text)
            taken = set(dir(builtins)) | BARRED
            for node in tree.body:
                if isinstance(node, ast.ImportFrom):
                    taken |= known_names(node)
            for name, line in bound_names(tree):
                with self.subTest(file=file, line=line, name=name):
                    self.assertNotIn(name, taken)
                    self.assertNotRegex(name, "^_(wall|record|written_out|cold|outside|stub|law)")

    def test_words_in_strings_and_names(self):
        for file, text in sources():
            tree = ast.parse(text)
            plain = {id(node.value) for node in ast.walk(tree) if isinstance(node, ast.Expr)}
            for node in ast.walk(tree):
                if isinstance(node, ast.Constant) and isinstance(node.value, str) and id(node) not in plain:
                    with self.subTest(file=file, line=node.lineno):
                        self.assertNotRegex(node.value, BARRED_WORDS)
                elif isinstance(node, ast.Attribute):
                    with self.subTest(file=file, line=node.lineno):
                        self.assertNotIn(node.attr, BARRED - {"type", "exit", "id", "dir"})

    def test_no_two_files_import_from_each_other(self):
        imports = {}
        for file, text in sources():
            found = [node.module for node in ast.parse(text).body if isinstance(node, ast.ImportFrom)]
            imports["formatfit." + file[:-3]] = [module for module in found if module.startswith("formatfit.")]
        while imports:
            free = [file for file, others in imports.items() if not any(other in imports for other in others)]
            self.assertTrue(free, imports)
            imports = {file: others for file, others in imports.items() if file not in free}


if __name__ == "__main__":
    unittest.main()
