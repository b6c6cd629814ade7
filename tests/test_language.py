"""The package's files keep to the small part of Python that they are to be written in.

This checks what a parser sees at once; it is no proof that every rule is kept.
"""

import ast
import builtins
import os
import re
import unittest

import ringgather

FOLDER = os.path.dirname(ringgather.__file__)
FILES = sorted(name for name in os.listdir(FOLDER) if name != "__pycache__")
BUILT_IN = set("""
    len range enumerate zip min max sum abs sorted reversed int str bool list tuple dict set frozenset isinstance
    ord repr any all divmod Exception ValueError TypeError KeyError IndexError LookupError ZeroDivisionError
    ArithmeticError OverflowError RuntimeError NotImplementedError AttributeError StopIteration
""".split())
METHODS = set("""
    append clear copy count endswith extend find get index insert isalnum isalpha isdigit islower isspace isupper
    items join keys ljust lower lstrip partition pop remove replace reverse rfind rjust rpartition rsplit rstrip
    setdefault split splitlines startswith strip update upper values zfill bit_length
""".split())
NODES = (
    ast.With, ast.Match, ast.Delete, ast.Global, ast.Nonlocal, ast.Assert, ast.Yield, ast.YieldFrom, ast.AsyncFor,
    ast.AsyncFunctionDef, ast.AsyncWith, ast.Await, ast.Starred, ast.NamedExpr, ast.GeneratorExp, ast.SetComp,
    ast.DictComp, ast.Div, ast.MatMult, ast.AnnAssign,
)
OF_OWN_TYPES = {name for kind in (str, int, list, dict, set, bytes, tuple) for name in dir(kind)}


def defs_of(tree, kind):
    return [node for node in ast.walk(tree) if isinstance(node, kind)]


def names_bound(tree):
    """List parameters and names that are assigned within functions."""
    bound = [node.arg for node in defs_of(tree, ast.arg)]
    for part in defs_of(tree, ast.FunctionDef):
        bound += [node.id for node in ast.walk(part) if isinstance(node, ast.Name) and isinstance(node.ctx, ast.Store)]
    return bound


class Language(unittest.TestCase):
    def setUp(self):
        self.texts = {}
        for name in FILES:
            with open(os.path.join(FOLDER, name), encoding="utf-8") as file:
                self.texts[name] = file.read()
        self.trees = {name: ast.parse(text) for name, text in self.texts.items()}

    def test_files(self):
        for name, text in self.texts.items():
            self.assertRegex(name, r"^([a-z][a-z0-9_]*|__init__)\.py$")
            self.assertRegex(text, r"\A[ -~\n]*\Z", name)
            rows = text.split("\n")
            self.assertLess(len(rows), 400, name)
            self.assertLessEqual(max(len(row) for row in rows), 120, name)
            self.assertIsNotNone(ast.get_docstring(self.trees[name]), name)

    def test_functions_are_small_and_plain(self):
        for name, tree in self.trees.items():
            for part in defs_of(tree, ast.FunctionDef):
                with self.subTest(name, part=part.name):
                    self.assertLessEqual(part.end_lineno - part.lineno + 1, 40)
                    self.assertEqual(part.decorator_list, [])
                    given = part.args
                    self.assertFalse(given.vararg or given.kwarg or given.kwonlyargs or given.posonlyargs)

    def test_no_form_that_is_ruled_out(self):
        for name, tree in self.trees.items():
            for node in ast.walk(tree):
                with self.subTest(name, line=getattr(node, "lineno", 0)):
                    self.assertNotIsInstance(node, NODES)
                    if isinstance(node, ast.Assign):
                        self.assertEqual(len(node.targets), 1)
                        self.assertIsInstance(node.targets[0], (ast.Name, ast.Attribute, ast.Subscript))
                    if isinstance(node, (ast.For, ast.While)):
                        self.assertEqual(node.orelse, [])
                    if isinstance(node, ast.Constant):
                        self.assertIn(type(node.value), (int, str, bool, type(None)))
                    if isinstance(node, ast.ListComp):
                        self.assertEqual(len(node.generators), 1)
                        self.assertLessEqual(len(node.generators[0].ifs), 1)
                    if isinstance(node, ast.Compare):
                        for sign, right in zip(node.ops, node.comparators):
                            if isinstance(sign, (ast.Is, ast.IsNot)):
                                self.assertIsInstance(right, ast.Constant)

    def test_the_top_of_a_file(self):
        for name, tree in self.trees.items():
            bound = []
            for node in tree.body:
                with self.subTest(name, line=node.lineno):
                    self.assertIsInstance(node, (ast.Expr, ast.ImportFrom, ast.FunctionDef, ast.ClassDef, ast.Assign))
                    if isinstance(node, ast.Expr):
                        self.assertIs(node, tree.body[0])
                    if isinstance(node, ast.Assign):
                        self.assertIsInstance(node.value, (ast.Constant, ast.Tuple))
                        bound.append(node.targets[0].id)
                    if isinstance(node, (ast.FunctionDef, ast.ClassDef)):
                        bound.append(node.name)
                    if isinstance(node, ast.ImportFrom):
                        bound += [part.name for part in node.names]
            self.assertEqual(len(bound), len(set(bound)), name)

    def test_imports(self):
        drawn = {}
        for name, tree in self.trees.items():
            self.assertEqual(defs_of(tree, ast.Import), [])
            drawn[name] = set()
            for node in defs_of(tree, ast.ImportFrom):
                self.assertEqual(node.level, 0)
                self.assertRegex(node.module, r"^ringgather\.[a-z_]+$")
                source = node.module.split(".")[1] + ".py"
                drawn[name].add(source)
                tops = {part.name for part in self.trees[source].body if hasattr(part, "name")}
                tops |= {part.targets[0].id for part in self.trees[source].body if isinstance(part, ast.Assign)}
                for part in node.names:
                    self.assertIsNone(part.asname)
                    self.assertIn(part.name, tops)
        while drawn:
            free = [name for name in drawn if not drawn[name] & set(drawn)]
            self.assertTrue(free, "files draw from one another")
            for name in free:
                drawn.pop(name)

    def test_names(self):
        taken = set(dir(builtins)) | {"help", "id", "type", "vars", "dir", "os", "sys", "gc", "exit", "quit"}
        for name, tree in self.trees.items():
            tops = {part.name for node in defs_of(tree, ast.ImportFrom) for part in node.names}
            tops |= {node.name for node in defs_of(tree, ast.ClassDef)}
            bound = names_bound(tree)
            own = {node.name for node in tree.body if hasattr(node, "name")}
            own |= {node.targets[0].id for node in tree.body if isinstance(node, ast.Assign)}
            for word in set(bound):
                self.assertNotIn(word, tops | taken, name)
            for word in own:
                self.assertNotIn(word, taken, name)
            for node in defs_of(tree, ast.Name):
                self.assertRegex(node.id, r"^[A-Za-z][A-Za-z0-9_]*$", name)
                self.assertIn(node.id, BUILT_IN | tops | own | set(bound), name)
            ruled_out = r"\b(type|typing|enum|Enum|Generic|Protocol|ABC|namedtuple|NamedTuple|register|mro|elements|open)\b"
            for node in ast.walk(tree):
                for word in (getattr(node, "id", ""), getattr(node, "attr", ""), getattr(node, "arg", "")):
                    self.assertIsNone(re.search(ruled_out, str(word)), name)

    def test_methods_and_values(self):
        methods, values, asked = [], set(), set()
        for tree in self.trees.values():
            for part in defs_of(tree, ast.ClassDef):
                methods += [node.name for node in part.body if isinstance(node, ast.FunctionDef)]
            called = {node.func for node in defs_of(tree, ast.Call)}
            for node in defs_of(tree, ast.Attribute):
                (asked if node in called else values).add(node.attr)
        own = {name for name in methods if not name.startswith("__")}
        self.assertFalse(own & values)
        self.assertFalse((own | values) & OF_OWN_TYPES)
        self.assertLessEqual(asked, own | METHODS)


if __name__ == "__main__":
    unittest.main()
