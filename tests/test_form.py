"""The form of the package's code, as far as it can be seen rule by rule."""

import ast
import builtins
import os
import re
import unittest

import twodesks

FOLDER = os.path.dirname(os.path.abspath(twodesks.__file__))
NODES = """
    Module FunctionDef arguments arg ClassDef ImportFrom alias Expr Assign AugAssign If While For Return Break Continue
    Pass Raise Try ExceptHandler Lambda Name Load Store Constant List Tuple Dict Set ListComp comprehension BinOp Add Sub
    Mult FloorDiv Mod Pow BitAnd BitOr BitXor LShift RShift UnaryOp USub UAdd Not Invert Compare Eq NotEq Lt LtE Gt GtE
    Is IsNot In NotIn BoolOp And Or IfExp Call keyword Attribute Subscript Slice JoinedStr FormattedValue
""".split()
OWN_NAMES = """
    len range enumerate zip min max sum abs sorted reversed int str bool list tuple dict set frozenset isinstance ord
    repr any all divmod Exception ValueError TypeError KeyError IndexError LookupError ZeroDivisionError ArithmeticError
    OverflowError RuntimeError NotImplementedError AttributeError StopIteration
""".split()
OWN_METHODS = """
    append clear copy count endswith extend find get index insert isalnum isalpha isdigit islower isspace isupper items
    join keys ljust lower lstrip partition pop remove replace reverse rfind rjust rpartition rsplit rstrip setdefault
    split splitlines startswith strip update upper values zfill bit_length
""".split()


def files_of_the_package():
    return sorted(name for name in os.listdir(FOLDER) if name != "__pycache__")


def text_of(name):
    with open(os.path.join(FOLDER, name), encoding="utf-8", newline="") as file:
        return file.read()


def nodes_of(name):
    return list(ast.walk(ast.parse(text_of(name))))


def bound_names(nodes):
    """Every name that's given a meaning in these nodes."""
    names = [node.id for node in nodes if isinstance(node, ast.Name) and isinstance(node.ctx, ast.Store)]
    names += [node.arg for node in nodes if isinstance(node, ast.arg)]
    names += [node.name for node in nodes if isinstance(node, (ast.FunctionDef, ast.ClassDef))]
    return names


def own_methods_of_the_package():
    """The methods of the package's classes, but those with two underscores."""
    methods = []
    for name in files_of_the_package():
        for kind in [node for node in nodes_of(name) if isinstance(node, ast.ClassDef)]:
            methods += [node.name for node in kind.body if isinstance(node, ast.FunctionDef)]
    return [word for word in methods if not word.startswith("__")]


class Form(unittest.TestCase):
    def test_files(self):
        for name in files_of_the_package():
            self.assertRegex(name, r"^([a-z][a-z0-9_]*|__init__|__main__)\.py$")

    def test_signs_and_sizes(self):
        for name in files_of_the_package():
            text = text_of(name)
            self.assertRegex(text, re.compile(r"\A[ -~\n]*\Z"), name)
            self.assertLessEqual(text.count("\n"), 399, name)
            self.assertLessEqual(max(len(row) for row in text.split("\n")), 120, name)
            for node in nodes_of(name):
                if isinstance(node, ast.FunctionDef):
                    self.assertLessEqual(node.end_lineno - node.lineno + 1, 40, node.name)

    def test_statements_and_values(self):
        for name in files_of_the_package():
            for node in nodes_of(name):
                self.assertIn(type(node).__name__, NODES, f"{name}: {getattr(node, 'lineno', '')}")
                if isinstance(node, ast.Constant):
                    self.assertIn(type(node.value), (int, str, bool, type(None)), name)
                if isinstance(node, ast.FunctionDef):
                    self.assertFalse(node.decorator_list or node.args.vararg or node.args.kwarg, node.name)
                    self.assertTrue(ast.get_docstring(node) or node.name == "__init__", node.name)
                if isinstance(node, (ast.For, ast.While, ast.Try)):
                    self.assertFalse(node.orelse and not isinstance(node, ast.Try), name)
                if isinstance(node, ast.Assign):
                    self.assertEqual(len(node.targets), 1, name)

    def test_imports_are_the_packages_own(self):
        for name in files_of_the_package():
            for node in nodes_of(name):
                if isinstance(node, ast.ImportFrom):
                    self.assertEqual(node.level, 0, name)
                    self.assertTrue(node.module.startswith("twodesks."), name)
                    self.assertFalse([alias for alias in node.names if alias.name == "*"], name)

    def test_names(self):
        for name in files_of_the_package():
            nodes = nodes_of(name)
            bound = bound_names(nodes)
            imported = [alias.name for node in nodes if isinstance(node, ast.ImportFrom) for alias in node.names]
            for word in bound:
                self.assertRegex(word, r"^([A-Za-z][A-Za-z0-9_]*|__init__)$", name)
                self.assertFalse(hasattr(builtins, word) and word != "__init__", f"{name}: {word}")
                self.assertNotIn(word, imported, name)
            for node in nodes:
                if isinstance(node, ast.Name) and hasattr(builtins, node.id):
                    self.assertIn(node.id, OWN_NAMES, name)

    def test_methods(self):
        own = own_methods_of_the_package()
        for word in own:
            self.assertFalse(any(hasattr(kind, word) for kind in (str, int, list, dict, set, bytes)), word)
        for name in files_of_the_package():
            for node in nodes_of(name):
                if isinstance(node, ast.Call) and isinstance(node.func, ast.Attribute):
                    self.assertIn(node.func.attr, OWN_METHODS + own, name)

    def test_the_interface_is_there(self):
        defs = [node.name for node in ast.parse(text_of("room.py")).body if isinstance(node, ast.FunctionDef)]
        self.assertEqual(defs.count("answers"), 1)
        answers = [node for node in nodes_of("room.py") if isinstance(node, ast.FunctionDef) and node.name == "answers"]
        self.assertEqual([argument.arg for argument in answers[0].args.args], ["calls"])
        self.assertEqual(answers[0].args.defaults, [])


if __name__ == "__main__":
    unittest.main()
