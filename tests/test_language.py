"""The package keeps to LANGUAGE.md, as far as tests/language.py can see."""

import ast
import re
import unittest
from pathlib import Path

from tests.language import breaks_of

PACKAGE = Path(__file__).resolve().parent.parent / "treelamps"

WRONG = {
    "L2": ["import sys\n", "from os import path\n", "from .errors import Busy\n", "from treelamps.errors import *\n",
           "A = 1\n\n\ndef f():\n    pass\n\n\nfrom treelamps.errors import Busy\n"],
    "L3": ["A = len('a')\n", "A = {'a': [1]}\n", "A = {'a': {}}\n", "A = [[1]]\n", "A = {'a': len('a')}\n",
           "for A in (1, 2):\n    pass\n", "A = B = 1\n", "A = [x for x in (1, 2)]\n"],
    "L4": ["def f(a, /):\n    return a\n", "def f(a=len('a')):\n    return a\n",
           "class A:\n    def join(self, *, a=1):\n        return a\n",
           "class A:\n    def __eq__(self, *, other):\n        return False\n"],
    "L5": ["class A:\n    def __hash__(self):\n        return 1\n", "class A:\n    many = len('a')\n"],
    "L6": ["def f():\n    global a\n    a = 1\n", "def f(a):\n    try:\n        a()\n    finally:\n        a.b()\n",
           "def f(a):\n    try:\n        a()\n    finally:\n        return a\n",
           "def f(a):\n    try:\n        a()\n    finally:\n        a.b = -1\n",
           "def f(a):\n    try:\n        a()\n    finally:\n        if a.b:\n            a.b = 1\n"],
    "L7": ["def f():\n    return 1 / 2\n", "def f():\n    return 0.5\n", "def f(x):\n    return any(a for a in x)\n"],
    "L8": ["def f(x):\n    return hash(x)\n", "def f(x):\n    return x.__class__\n",
           "def f(x):\n    return map(f, x)\n"],
    "L10": ["def f():\n" + "    pass\n" * 40, "# " + "x" * 119 + "\n", "A = 1\n" + "\n" * 400],
    "L12": ["def _f():\n    pass\n", "def f(x):\n    return [1 for _ in x]\n"],
    "L14": ["# caf\u00e9\n", "def f():\n\treturn 1\n"],
    "L15": ["A = 1\nA = 2\n", "def f(next):\n    return next\n",
            "from treelamps.errors import Busy\n\n\ndef f(Busy):\n    return Busy\n"],
    "L17": ["# of this type\n"],
    "L19": ["def f(x):\n    raise x\n", "def f():\n    try:\n        f()\n    except Exception:\n        pass\n",
            "def f():\n    try:\n        f()\n    except:\n        pass\n",
            "def f():\n    try:\n        f()\n    except (KeyError, ValueError):\n        pass\n"],
    "L20": ["def f(x):\n    return x is f\n"],
    "L21": ["def f(x: int):\n    return x\n", "def f() -> int:\n    return 1\n"],
    "L22": ["def f(x):\n    return isinstance(x, set)\n", "def f(x):\n    return x.split(sep=' ')\n"],
    "L23": ["def f(x):\n    return range(x)\n", "def f(x):\n    y = x.items()\n    return y\n",
            "def f(x):\n    for y in x:\n        x.append(y)\n",
            "def f(x):\n    for k, y in enumerate(x):\n        x[k] = 1\n",
            "def f(x):\n    for y in x.rows:\n        if y:\n            x.rows.pop()\n"],
    "L24": ["def f(x):\n    return set(x)\n", "def f(x):\n    return {x, 1}\n"],
    "L25": ["def f(x):\n    return x.union(x)\n"],
    "L26": ["class A:\n    def __init__(self):\n        self.items = 1\n"],
    "L27": ["A = '%'\n", "A = '\\x41'\n", "def f(n):\n    return 2 ** n\n"],
    "L28": ["class A:\n    def __init__(self):\n        return None\n",
            "class A:\n    def __len__(self):\n        return len(self.a) - 1\n",
            "class A:\n    def __str__(self):\n        a = self.a\n        return f'{a}'\n",
            "class A:\n    def __str__(self):\n        return self.a\n",
            "class A:\n    def __eq__(self, other):\n        self.a = 1\n        return True\n",
            "class A:\n    def __len__(self):\n        if self.a:\n            return 1\n"],
}


def sources():
    return {path.stem: path.read_text(encoding="utf-8") for path in sorted(PACKAGE.glob("*.py"))}


def own_methods(texts):
    classes = [node for text in texts.values() for node in ast.parse(text).body if isinstance(node, ast.ClassDef)]
    return {inner.name for node in classes for inner in node.body if isinstance(inner, ast.FunctionDef)}


def imports_of(text):
    """The pairs of a module's name and a name that is imported from it."""
    nodes = [node for node in ast.parse(text).body if isinstance(node, ast.ImportFrom)]
    return [(node.module.removeprefix("treelamps."), alias.name) for node in nodes for alias in node.names]


def names_defined(text):
    body = ast.parse(text).body
    functions = [node.name for node in body if isinstance(node, (ast.FunctionDef, ast.ClassDef))]
    return functions + [node.targets[0].id for node in body if isinstance(node, ast.Assign)]


class LanguageTest(unittest.TestCase):
    def test_package(self):
        texts = sources()
        for name, text in texts.items():
            self.assertEqual(breaks_of(text, methods=own_methods(texts)), [], name)

    def test_files(self):
        names = [path.name for path in PACKAGE.iterdir() if path.name != "__pycache__"]
        self.assertIn("__init__.py", names)
        for name in names:
            self.assertTrue(re.fullmatch(r"__init__\.py|[a-z][a-z0-9_]*\.py", name), name)

    def test_imports_name_the_defining_file(self):
        texts = sources()
        for text in texts.values():
            for module, name in imports_of(text):
                self.assertIn(name, names_defined(texts[module]))

    def test_no_file_imports_itself_through_others(self):
        texts = sources()
        for start in texts:
            reached = []
            waiting = [start]
            while waiting:
                new = {module for module, name in imports_of(texts[waiting.pop()])} - set(reached)
                reached.extend(new)
                waiting.extend(new)
            self.assertNotIn(start, reached)

    def test_no_name_is_a_method_and_an_attribute(self):
        texts = sources()
        stored = {node.attr for text in texts.values() for node in ast.walk(ast.parse(text))
                  if isinstance(node, ast.Attribute) and isinstance(node.ctx, ast.Store)}
        self.assertEqual(stored & own_methods(texts), set())

    def test_attributes_that_are_read_are_assigned(self):
        trees = [ast.parse(text) for text in sources().values()]
        attributes = [node for tree in trees for node in ast.walk(tree) if isinstance(node, ast.Attribute)]
        stored = {node.attr for node in attributes if isinstance(node.ctx, ast.Store)}
        called = {id(node.func) for tree in trees for node in ast.walk(tree) if isinstance(node, ast.Call)}
        for node in attributes:
            if id(node) not in called:
                self.assertIn(node.attr, stored)

    def test_breaks_are_found(self):
        for rule, texts in WRONG.items():
            for text in texts:
                self.assertIn(rule, [found for found, line in breaks_of(text)], text)

    def test_right_code_has_none(self):
        for text in (
            "A = (1, -2)\n\n\ndef f(x, y=A):\n    return [a for a, b in zip(x, y) if b is None]\n",
            "def f(x):\n    return x\n\n\nA = {'f': f, 'g': (f, 1)}\nB = [1, (2, 3)]\n",
            "class A:\n    def __len__(self):\n        return len(self.a)\n\n    def __str__(self):\n"
            "        return ', '.join([f'{len(self.a)} of'])\n\n    def f(self, *, a=None):\n        return a\n",
            "def f(a, b):\n    c = a.c\n    try:\n        return b(a)\n    finally:\n        a.c, a.d = c, False\n",
            "def f(x):\n    for y in list(x):\n        x = x + [y]\n",
        ):
            self.assertEqual(breaks_of(text), [], text)
