"""The files of the package: the interface stands where the document lists it, and the code keeps to the subset."""

import ast
import builtins
import inspect
import os
import unittest
import warnings

import ladderdays.days
import ladderdays.errors
import ladderdays.ladders
from tests.plain import PARAMETERS, Case

FOLDER = os.path.dirname(ladderdays.days.__file__)
ALLOWED = {"len", "range", "enumerate", "zip", "min", "max", "sum", "abs", "sorted", "reversed", "int", "str", "bool",
           "bytes", "list", "tuple", "dict", "set", "frozenset", "isinstance", "ord", "repr", "any", "all", "divmod",
           "map", "iter", "next", "super", "property", "staticmethod", "classmethod", "object", "NotImplemented",
           "Exception", "ValueError", "TypeError", "KeyError", "IndexError", "LookupError", "ZeroDivisionError",
           "ArithmeticError", "OverflowError", "RuntimeError", "NotImplementedError", "AttributeError",
           "StopIteration"}
# The name `_` is there only once something was shown, as doctest does.
BUILTINS = set(dir(builtins)) - {"_"}
LIBRARY = {"heapq": {"heappush", "heappop", "heapify", "heapreplace", "heappushpop"},
           "math": {"gcd", "lcm", "isqrt", "comb", "perm", "factorial"},
           "itertools": {"product", "combinations", "permutations"}}
DAYS = ["has", "least_set", "set_of", "every", "both", "either", "but", "others", "moved", "first_apart", "meeting",
        "next_day", "counts", "nth_days", "gaps"]
LADDERS = ["value", "least_ladder", "joined", "earlier", "later", "plus", "first_from", "until", "alike",
           "first_unlike", "first_less", "apart", "speed", "power", "after", "still", "settles"]


def sources():
    for name in sorted(os.listdir(FOLDER)):
        if name != "__pycache__":
            with open(os.path.join(FOLDER, name), encoding="utf-8") as file:
                yield name, file.read()


class Interface(Case):
    def test_functions(self):
        self.assertEqual(sorted(DAYS + LADDERS), sorted(PARAMETERS))
        for module, names in ((ladderdays.days, DAYS), (ladderdays.ladders, LADDERS)):
            for name in names:
                function = getattr(module, name)
                self.assertEqual(function.__module__, module.__name__)
                self.assertEqual(list(inspect.signature(function).parameters), PARAMETERS[name])

    def test_defined_where_listed(self):
        trees = {name: ast.parse(text) for name, text in sources()}
        for file, names in (("days.py", DAYS), ("ladders.py", LADDERS)):
            defined = [part.name for part in trees[file].body if isinstance(part, ast.FunctionDef)]
            for name in names:
                self.assertEqual(defined.count(name), 1, name)
        classes = [part.name for part in trees["errors.py"].body if isinstance(part, ast.ClassDef)]
        self.assertEqual(len(classes), 14)
        self.assertEqual(len(set(classes)), 14)


class Subset(Case):
    def test_files(self):
        names = [name for name, _ in sources()]
        self.assertIn("__init__.py", names)
        for name in names:
            self.assertRegex(name, r"^[a-z_0-9]+\.py$")
            self.assertNotIn(name[:-3], BUILTINS)

    def test_sizes_and_signs(self):
        for name, text in sources():
            lines = text.split("\n")
            self.assertLessEqual(len(lines), 399, name)
            for line in lines:
                self.assertLessEqual(len(line), 120, (name, line))
                self.assertEqual(line, line.rstrip(), name)
            self.assertTrue(all(sign == "\n" or " " <= sign <= "~" for sign in text), name)
            for part in ast.walk(ast.parse(text)):
                if isinstance(part, ast.FunctionDef):
                    self.assertLessEqual(part.end_lineno - part.lineno + 1, 40, (name, part.name))

    def test_no_warnings(self):
        for name, text in sources():
            with warnings.catch_warnings():
                warnings.simplefilter("error")
                compile(text, name, "exec")

    def test_imports(self):
        edges = {}
        for name, text in sources():
            module = f"ladderdays.{name[:-3]}"
            edges[module] = []
            for part in ast.walk(ast.parse(text)):
                self.assertNotIsInstance(part, ast.Import, name)
                if isinstance(part, ast.ImportFrom):
                    self.assertEqual(part.level, 0)
                    self.assertTrue(all(one.asname is None for one in part.names), name)
                    if part.module in LIBRARY:
                        self.assertTrue({one.name for one in part.names} <= LIBRARY[part.module], name)
                    else:
                        self.assertTrue(part.module.startswith("ladderdays."), (name, part.module))
                        edges[module].append(part.module)
        done = set()
        while len(done) < len(edges):
            ready = [module for module in edges if module not in done and done.issuperset(edges[module])]
            self.assertTrue(ready, "files import from each other")
            done.update(ready)

    def test_module_level(self):
        for name, text in sources():
            for part in ast.parse(text).body:
                docstring = isinstance(part, ast.Expr) and isinstance(part.value, ast.Constant)
                plain = isinstance(part, (ast.ImportFrom, ast.FunctionDef, ast.ClassDef, ast.Assign))
                self.assertTrue(docstring or plain, (name, part.lineno))

    def test_no_builtin_is_given_another_meaning(self):
        for name, text in sources():
            for part in ast.walk(ast.parse(text)):
                if isinstance(part, ast.Name) and not isinstance(part.ctx, ast.Load):
                    self.assertNotIn(part.id, BUILTINS, (name, part.lineno))
                if isinstance(part, ast.arg):
                    self.assertNotIn(part.arg, BUILTINS, (name, part.lineno))
                if isinstance(part, (ast.FunctionDef, ast.ClassDef)):
                    self.assertNotIn(part.name, BUILTINS, (name, part.lineno))

    def test_only_builtins_that_may_be_used(self):
        for name, text in sources():
            for part in ast.walk(ast.parse(text)):
                if isinstance(part, ast.Name) and part.id in BUILTINS:
                    self.assertIn(part.id, ALLOWED, (name, part.lineno))

    def test_no_barred_expressions(self):
        barred = (ast.Div, ast.AsyncFunctionDef, ast.Global, ast.Await)
        for name, text in sources():
            for part in ast.walk(ast.parse(text)):
                self.assertNotIsInstance(part, barred, name)
                if isinstance(part, ast.Constant):
                    self.assertNotIsInstance(part.value, (float, complex), name)


if __name__ == "__main__":
    unittest.main()
