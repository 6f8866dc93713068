"""The names, arguments and places of the interface, and the form of the package."""

import ast
import unittest
from pathlib import Path

PACKAGE = Path(__file__).resolve().parent.parent / "keptcode"
LIBRARY = ("__future__", "collections", "heapq", "itertools", "math")

# For each file: its functions and classes with the names of their parameters.
FUNCTIONS = {
    "codebooks.py": {"is_name": ["thing"], "is_codeword": ["radix", "depth", "thing"]},
    "text.py": {"format_codebook": ["book"], "parse_codebook": ["text"]},
    "coding.py": {"encode": ["book", "names"], "decode": ["book", "digits"]},
    "tree.py": {
        "free_nodes": ["book", "length"],
        "touched": ["book", "length"],
        "room": ["book"],
        "gaps": ["book"],
    },
    "packing.py": {"assign": ["book", "request"], "canonical": ["radix", "depth", "lengths"]},
    "capacity.py": {"loads": ["book", "request", "kept"], "failing_level": ["book", "request", "kept"]},
    "plans.py": {
        "is_plan": ["book", "request", "prices", "thing"],
        "plan_price": ["book", "request", "prices", "plan"],
        "apply_plan": ["book", "request", "prices", "plan"],
        "make_plan": ["book", "request", "prices", "recoded"],
    },
    "cheapest.py": {"options": ["book", "request", "prices"], "cheapest": ["book", "request", "prices"]},
    "certificates.py": {"check_certificate": ["book", "request", "prices", "thing", "bar"]},
    "symmetry.py": {"relabel": ["book", "exchange"], "alike": ["book", "other"]},
    "confusion.py": {
        "confusing": ["first", "second"],
        "confusion_table": ["first", "second"],
        "check_table": ["first", "second", "thing"],
    },
    "moves.py": {"move_order": ["old", "new"], "move_cycle": ["old", "new"]},
}
METHODS = {
    "codebooks.py": {
        "Codebook": {
            "__init__": ["self", "radix", "depth", "words", "reserved=()"],
            "words": ["self"],
            "reserved": ["self"],
            "codeword": ["self", "name"],
            "__len__": ["self"],
            "__eq__": ["self", "other"],
        },
    },
    "coding.py": {
        "Decoder": {
            "__init__": ["self", "book"],
            "feed": ["self", "digits"],
            "pending": ["self"],
            "copy": ["self"],
        },
    },
    "history.py": {
        "History": {
            "__init__": ["self", "book"],
            "change": ["self", "request", "prices"],
            "book": ["self", "version=None"],
            "__len__": ["self"],
            "spent": ["self"],
            "stable": ["self", "first", "second"],
            "copy": ["self"],
            "send": ["self", "names", "*", "version=None"],
            "receive": ["self", "message"],
        },
    },
    "registry.py": {
        "Registry": {
            "__init__": ["self"],
            "create": ["self", "name", "radix", "depth"],
            "request": ["self", "name", "request", "prices"],
            "remove": ["self", "name", "word"],
            "reserve": ["self", "name", "string"],
            "release": ["self", "name", "string"],
            "drop": ["self", "name"],
            "mark": ["self", "label"],
            "back": ["self", "label"],
            "batch": ["self", "commands"],
            "names": ["self"],
            "book": ["self", "name"],
            "spent": ["self", "name"],
            "log": ["self"],
            "copy": ["self"],
        },
    },
    "shell.py": {"Shell": {"__init__": ["self"], "run": ["self", "line"]}},
}


def parsed(name):
    return ast.parse((PACKAGE / name).read_text(encoding="ascii"))


def parameters(function):
    """The parameters of a function, as the interface writes them."""
    return [] if not ast.unparse(function.args) else ast.unparse(function.args).split(", ")


def functions_of(node):
    return {part.name: part for part in node.body if isinstance(part, ast.FunctionDef)}


class InterfaceTest(unittest.TestCase):
    def test_functions_stand_in_their_files(self):
        for name, wanted in FUNCTIONS.items():
            found = functions_of(parsed(name))
            for function, arguments in wanted.items():
                with self.subTest(file=name, function=function):
                    self.assertEqual(parameters(found[function]), arguments)

    def test_classes_define_their_own_methods(self):
        for name, wanted in METHODS.items():
            classes = {part.name: part for part in parsed(name).body if isinstance(part, ast.ClassDef)}
            for owner, methods in wanted.items():
                found = functions_of(classes[owner])
                for method, arguments in methods.items():
                    with self.subTest(file=name, owner=owner, method=method):
                        self.assertEqual(parameters(found[method]), arguments)


class FormTest(unittest.TestCase):
    def files(self):
        return [path for path in sorted(PACKAGE.rglob("*")) if path.name != "__pycache__" and path.suffix != ".pyc"]

    def test_package_holds_only_python_files(self):
        self.assertEqual([path.name for path in self.files() if path.suffix != ".py"], [])
        self.assertIn("__init__.py", [path.name for path in self.files()])

    def test_sizes_and_characters(self):
        for path in self.files():
            with self.subTest(file=path.name):
                text = path.read_text(encoding="ascii")
                self.assertTrue(all(sign == "\n" or " " <= sign <= "~" for sign in text))
                lines = text.split("\n")
                self.assertLessEqual(len(lines), 400)
                self.assertLessEqual(max(len(line) for line in lines), 120)
                for node in ast.walk(ast.parse(text)):
                    if isinstance(node, ast.FunctionDef):
                        self.assertLessEqual(node.end_lineno - node.lineno + 1, 40)

    def test_no_outside_imports(self):
        for path in self.files():
            for node in ast.walk(parsed(path.name)):
                self.assertNotIsInstance(node, ast.Import)
                if isinstance(node, ast.ImportFrom):
                    self.assertEqual(node.level, 0)
                    self.assertTrue(node.module in LIBRARY or node.module.startswith("keptcode."))


if __name__ == "__main__":
    unittest.main()
