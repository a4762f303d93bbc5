"""What holds for the files of the package: their interface, and what they may use."""

import ast
import importlib
import inspect
import unittest
from pathlib import Path

import nogroupleaves

FOLDER = Path(nogroupleaves.__file__).parent

INTERFACE = {
    "errors": {
        "GroupError": None, "BadText": ["at"], "BadPaper": ["at"], "BadTable": ["what"], "NoPayments": ["weights"],
        "BadRatio": None,
    },
    "ratio": {"Ratio": ["num", "den"]},
    "house": {
        "House": ["goods", "members", "talks", "recipes", "orders"], "read_house": ["text"], "house_text": ["house"],
    },
    "earn": {"earned": ["house", "group", "plan"], "best_plan": ["house", "group"]},
    "table": {
        "Table": ["count", "rows"], "acting": ["house"], "table_of": ["house"],
        "complaint": ["table", "payments", "group"], "gains": ["table", "payments"], "holds_on": ["table", "payments"],
        "best_split": ["table"],
    },
    "pay": {
        "stay": ["table"], "subsidy": ["table"], "tax": ["table"], "least_for": ["table", "member"],
        "most_for": ["table", "member"], "nearest": ["table", "wishes"], "fairest": ["table"],
    },
    "judge": {"is_right": ["table", "claim"]},
    "change": {
        "scaled": ["table", "factor", "amounts"], "renumbered": ["table", "order"],
        "reduced": ["table", "payments", "group"],
    },
    "pact": {"Pact": ["table"]},
    "lines": {
        "table_lines": ["table"], "claim_lines": ["claim"], "read_table": ["lines"], "read_claim": ["lines"],
    },
}

METHODS = {
    ("ratio", "Ratio"): {
        "__add__": ["self", "other"], "__sub__": ["self", "other"], "__mul__": ["self", "other"],
        "__eq__": ["self", "other"], "__str__": ["self"], "less": ["self", "other"], "over": ["self", "other"],
    },
    ("house", "House"): {"__eq__": ["self", "other"]},
    ("table", "Table"): {"__eq__": ["self", "other"], "earning": ["self", "group"]},
    ("pact", "Pact"): {"tell": ["self", "group", "earning"], "words": ["self"]},
}

# The only names of Python's own library that the program takes: they need no clock, no chance and no file.
LIBRARY = {("math", "gcd"), ("math", "lcm")}


def part_of(module, name):
    return getattr(importlib.import_module(f"nogroupleaves.{module}"), name)


def argument_names(called):
    return list(inspect.signature(called).parameters)


def trees():
    return [(path.name, ast.parse(path.read_text())) for path in sorted(FOLDER.rglob("*.py"))]


class InterfaceTest(unittest.TestCase):
    def test_names_are_defined_in_their_modules(self):
        for module, names in INTERFACE.items():
            for name in names:
                self.assertEqual(part_of(module, name).__module__, f"nogroupleaves.{module}", name)

    def test_names_of_arguments(self):
        for module, names in INTERFACE.items():
            for name, arguments in names.items():
                if arguments is not None:
                    self.assertEqual(argument_names(part_of(module, name)), arguments, name)

    def test_methods_are_defined_in_their_classes(self):
        for (module, name), methods in METHODS.items():
            own = vars(part_of(module, name))
            for method, arguments in methods.items():
                self.assertIn(method, own)
                self.assertEqual(argument_names(own[method]), arguments, method)


class OutsideTest(unittest.TestCase):
    def test_imports(self):
        for file, tree in trees():
            for node in ast.walk(tree):
                self.assertNotIsInstance(node, ast.Import, file)
                if isinstance(node, ast.ImportFrom) and not node.module.startswith("nogroupleaves."):
                    for alias in node.names:
                        self.assertIn((node.module, alias.name), LIBRARY, file)

    def test_no_files_and_no_output(self):
        for file, tree in trees():
            called = {node.id for node in ast.walk(tree) if isinstance(node, ast.Name)}
            self.assertEqual(called & {"open", "print", "input", "__import__", "exec", "eval"}, set(), file)


if __name__ == "__main__":
    unittest.main()
