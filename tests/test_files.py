"""The files of the package: the interface stands where the document lists it, and the code keeps to the subset."""

import ast
import builtins
import inspect
import os
import unittest
import warnings

import ladderdays.calendars
import ladderdays.days
import ladderdays.desks
import ladderdays.diaries
import ladderdays.errors
import ladderdays.feasts
import ladderdays.ladders
import ladderdays.queues
import ladderdays.readings
import ladderdays.rosters
import ladderdays.sums
import ladderdays.terms
import ladderdays.texts
from tests.plain import PARAMETERS, Case

FOLDER = os.path.dirname(ladderdays.days.__file__)
ALLOWED = {"len", "range", "enumerate", "zip", "min", "max", "sum", "abs", "sorted", "reversed", "int", "str", "bool",
           "bytes", "list", "tuple", "dict", "set", "frozenset", "isinstance", "ord", "repr", "any", "all", "divmod",
           "map", "iter", "next", "super", "property", "staticmethod", "classmethod", "object", "NotImplemented",
           "Exception", "ValueError", "TypeError", "KeyError", "IndexError", "LookupError", "ZeroDivisionError",
           "ArithmeticError", "OverflowError", "RuntimeError", "NotImplementedError", "AttributeError",
           "StopIteration"}
# The name `_` is there only once something was shown, as doctest does.
BUILTINS = set(dir(builtins)) - {"_"}
LIBRARY = {"heapq": {"heappush", "heappop", "heapify", "heapreplace", "heappushpop"},
           "math": {"gcd", "lcm", "isqrt", "comb", "perm", "factorial"},
           "itertools": {"product", "combinations", "permutations"}}
FUNCTIONS = {
    ladderdays.days: ["has", "least_set", "set_of", "every", "both", "either", "but", "others", "moved", "first_apart",
                      "meeting", "next_day", "counts", "nth_days", "gaps"],
    ladderdays.ladders: ["value", "least_ladder", "joined", "earlier", "later", "plus", "first_from", "until", "alike",
                         "first_unlike", "first_less", "apart", "speed", "power", "after", "still", "settles"],
    ladderdays.calendars: [],
    ladderdays.feasts: ["days_of", "distances", "never_meeting", "needless", "busiest"],
    ladderdays.terms: ["due", "ladder_of", "never_later", "first_later", "slack", "last_start", "passing",
                       "needless_steps", "shortest", "spread"],
    ladderdays.diaries: ["fitting", "surely", "maybe", "fewest_looks", "next_look", "turns", "explained"],
    ladderdays.texts: ["show_feast", "show_term", "show_calendar", "show_almanac", "show_row", "show_ladder"],
    ladderdays.readings: ["read_feast", "read_term", "read_calendar", "read_almanac", "read_row", "read_ladder"],
    ladderdays.sums: ["added_up", "amounts", "most", "least", "where_most", "where_least", "first_over", "first_under",
                      "tightest", "firmest", "is_tight", "is_firm", "can_keep", "row_within"],
    ladderdays.queues: ["done", "undone", "most_undone", "days_of_coming", "days_done", "waits", "first_to_wait",
                        "in_a_row", "first_unlike_order", "greatest_undone", "greatest_wait", "least_office",
                        "office_for", "idle_days"],
    ladderdays.rosters: ["row_of", "days_with", "workers", "strength", "thin_days", "breaches", "exchanged",
                         "exchanges", "ahead", "turning", "fewest"],
    ladderdays.desks: []}
METHODS = {
    ladderdays.calendars.Calendar: ["date", "day", "year_starts", "month_starts", "dates", "last_days", "months_on",
                                    "years_on", "months"],
    ladderdays.feasts.Almanac: [],
    ladderdays.desks.Desk: ["forks", "names", "feast", "term", "row", "hire", "leave", "exchange", "branch", "switch",
                            "undo", "due", "ladder", "line", "rested", "order"]}
PROPERTIES = {ladderdays.calendars.Calendar: ["years"], ladderdays.feasts.Almanac: ["calendar", "feasts"],
              ladderdays.desks.Desk: ["almanac", "fork", "roster"]}
SIGNS = {ladderdays.calendars.Calendar: ["__init__", "__eq__", "__len__"],
         ladderdays.feasts.Almanac: ["__init__", "__eq__", "__len__", "__getitem__", "__iter__"],
         ladderdays.desks.Desk: ["__init__", "__len__"]}


def sources():
    for name in sorted(os.listdir(FOLDER)):
        if name != "__pycache__":
            with open(os.path.join(FOLDER, name), encoding="utf-8") as file:
                yield name, file.read()


def tree_of(module):
    """The tree of a file of the package."""
    return ast.parse(dict(sources())[os.path.basename(module.__file__)])


class Interface(Case):
    def test_all_are_listed(self):
        listed = [name for names in FUNCTIONS.values() for name in names]
        listed += [cls.__name__ for cls in METHODS]
        listed += [f"{cls.__name__}.{name}" for cls, names in METHODS.items() for name in names]
        self.assertEqual(sorted(listed), sorted(PARAMETERS))

    def test_functions(self):
        for module, names in FUNCTIONS.items():
            defined = [part.name for part in tree_of(module).body if isinstance(part, ast.FunctionDef)]
            for name in names:
                function = getattr(module, name)
                self.assertEqual(function.__module__, module.__name__)
                self.assertEqual(list(inspect.signature(function).parameters), PARAMETERS[name])
                self.assertEqual(defined.count(name), 1, name)

    def test_classes(self):
        for cls, names in METHODS.items():
            module = inspect.getmodule(cls)
            self.assertEqual(list(inspect.signature(cls).parameters), PARAMETERS[cls.__name__])
            found = [part for part in tree_of(module).body
                     if isinstance(part, ast.ClassDef) and part.name == cls.__name__]
            self.assertEqual(len(found), 1)
            defined = {part.name: part for part in found[0].body if isinstance(part, ast.FunctionDef)}
            for name in names:
                self.assertEqual(list(inspect.signature(getattr(cls, name)).parameters),
                                 ["self"] + PARAMETERS[f"{cls.__name__}.{name}"])
                self.assertFalse(defined[name].decorator_list)
            for name in PROPERTIES[cls]:
                self.assertIsInstance(vars(cls)[name], property)
                self.assertEqual([one.id for one in defined[name].decorator_list], ["property"])
                self.assertIsNone(vars(cls)[name].fset)
            self.assertEqual(sorted(SIGNS[cls]), sorted(name for name in defined if name.startswith("__")))

    def test_errors(self):
        classes = [part.name for part in tree_of(ladderdays.errors).body if isinstance(part, ast.ClassDef)]
        self.assertEqual(len(classes), 14)
        self.assertEqual(len(set(classes)), 14)


class Subset(Case):
    def test_files(self):
        names = [name for name, _ in sources()]
        self.assertIn("__init__.py", names)
        for name in names:
            self.assertRegex(name, r"^[a-z_0-9]+\.py$")
            self.assertNotIn(name[:-3], BUILTINS)

    def test_sizes_and_signs(self):
        for name, text in sources():
            lines = text.split("\n")
            self.assertLessEqual(len(lines), 399, name)
            for line in lines:
                self.assertLessEqual(len(line), 120, (name, line))
                self.assertEqual(line, line.rstrip(), name)
            self.assertTrue(all(sign == "\n" or " " <= sign <= "~" for sign in text), name)
            for part in ast.walk(ast.parse(text)):
                if isinstance(part, ast.FunctionDef):
                    self.assertLessEqual(part.end_lineno - part.lineno + 1, 40, (name, part.name))

    def test_no_warnings(self):
        for name, text in sources():
            with warnings.catch_warnings():
                warnings.simplefilter("error")
                compile(text, name, "exec")

    def test_imports(self):
        edges = {}
        for name, text in sources():
            module = f"ladderdays.{name[:-3]}"
            edges[module] = []
            for part in ast.walk(ast.parse(text)):
                self.assertNotIsInstance(part, ast.Import, name)
                if isinstance(part, ast.ImportFrom):
                    self.assertEqual(part.level, 0)
                    self.assertTrue(all(one.asname is None for one in part.names), name)
                    if part.module in LIBRARY:
                        self.assertTrue({one.name for one in part.names} <= LIBRARY[part.module], name)
                    else:
                        self.assertTrue(part.module.startswith("ladderdays."), (name, part.module))
                        edges[module].append(part.module)
        done = set()
        while len(done) < len(edges):
            ready = [module for module in edges if module not in done and done.issuperset(edges[module])]
            self.assertTrue(ready, "files import from each other")
            done.update(ready)

    def test_module_level(self):
        for name, text in sources():
            for part in ast.parse(text).body:
                docstring = isinstance(part, ast.Expr) and isinstance(part.value, ast.Constant)
                plain = isinstance(part, (ast.ImportFrom, ast.FunctionDef, ast.ClassDef, ast.Assign))
                self.assertTrue(docstring or plain, (name, part.lineno))

    def test_no_builtin_is_given_another_meaning(self):
        for name, text in sources():
            for part in ast.walk(ast.parse(text)):
                if isinstance(part, ast.Name) and not isinstance(part.ctx, ast.Load):
                    self.assertNotIn(part.id, BUILTINS, (name, part.lineno))
                if isinstance(part, ast.arg):
                    self.assertNotIn(part.arg, BUILTINS, (name, part.lineno))
                if isinstance(part, (ast.FunctionDef, ast.ClassDef)):
                    self.assertNotIn(part.name, BUILTINS, (name, part.lineno))

    def test_no_import_is_given_another_meaning(self):
        for name, text in sources():
            tree = ast.parse(text)
            taken = {one.name for part in tree.body if isinstance(part, ast.ImportFrom) for one in part.names}
            taken |= {part.name for part in tree.body if isinstance(part, ast.ClassDef)}
            for part in ast.walk(tree):
                if isinstance(part, ast.Name) and not isinstance(part.ctx, ast.Load):
                    self.assertNotIn(part.id, taken, (name, part.lineno))
                if isinstance(part, ast.arg):
                    self.assertNotIn(part.arg, taken, (name, part.lineno))
                if isinstance(part, ast.FunctionDef) and part in tree.body:
                    self.assertNotIn(part.name, taken, (name, part.lineno))

    def test_imports_are_used(self):
        for name, text in sources():
            tree = ast.parse(text)
            used = {part.id for part in ast.walk(tree) if isinstance(part, ast.Name)}
            for part in tree.body:
                if isinstance(part, ast.ImportFrom):
                    self.assertEqual([one.name for one in part.names if one.name not in used], [], name)

    def test_no_name_is_a_method_and_an_attribute(self):
        for name, text in sources():
            for cls in ast.walk(ast.parse(text)):
                if isinstance(cls, ast.ClassDef):
                    methods = {part.name for part in cls.body if isinstance(part, ast.FunctionDef)}
                    stored = {part.attr for part in ast.walk(cls) if isinstance(part, ast.Attribute)
                              and isinstance(part.ctx, ast.Store)}
                    self.assertFalse(methods & stored, (name, cls.name))

    def test_len_returns_a_len(self):
        for name, text in sources():
            for part in ast.walk(ast.parse(text)):
                if isinstance(part, ast.FunctionDef) and part.name == "__len__":
                    self.assertIsInstance(part.body[-1], ast.Return, name)
                    for inner in ast.walk(part):
                        if isinstance(inner, ast.Return):
                            self.assertEqual(inner.value.func.id, "len", name)

    def test_no_generator_expressions(self):
        for name, text in sources():
            for part in ast.walk(ast.parse(text)):
                self.assertNotIsInstance(part, (ast.GeneratorExp, ast.Set), name)

    def test_only_own_errors_are_caught(self):
        for name, text in sources():
            for part in ast.walk(ast.parse(text)):
                if isinstance(part, ast.Try):
                    self.assertFalse(part.finalbody + part.orelse, (name, part.lineno))
                    self.assertEqual([one.type.id for one in part.handlers], ["DaysError"], (name, part.lineno))

    def test_what_stands_at_module_level_holds_no_list(self):
        for name, text in sources():
            for part in ast.parse(text).body:
                if isinstance(part, ast.Assign):
                    inner = [one for one in ast.walk(part.value) if one is not part.value]
                    lists = [one for one in inner if isinstance(one, (ast.List, ast.Dict))]
                    self.assertFalse(lists, (name, part.lineno))

    def test_only_builtins_that_may_be_used(self):
        for name, text in sources():
            for part in ast.walk(ast.parse(text)):
                if isinstance(part, ast.Name) and part.id in BUILTINS:
                    self.assertIn(part.id, ALLOWED, (name, part.lineno))

    def test_no_barred_expressions(self):
        barred = (ast.Div, ast.AsyncFunctionDef, ast.Global, ast.Await)
        for name, text in sources():
            for part in ast.walk(ast.parse(text)):
                self.assertNotIsInstance(part, barred, name)
                if isinstance(part, ast.Constant):
                    self.assertNotIsInstance(part.value, (float, complex), name)


if __name__ == "__main__":
    unittest.main()
