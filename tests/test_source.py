"""The files of the package: sizes (L10), characters (L14), names and imports (L2, L15, L16)."""

import ast
import builtins
import inspect
import os
import re
import unittest
import warnings
from importlib import import_module

import staybounds

FOLDER = os.path.dirname(os.path.abspath(staybounds.__file__))

INTERFACE = {
    "books": ["is_limit(candidate)", "is_book(candidate)", "is_calendar(book, candidate)",
              "days_in(book, calendar, zones)", "stays(book, calendar, zones)"],
    "judging": ["is_allowed(book, calendar)", "first_broken(book, calendar)", "past_of(book, calendar)",
                "next_days(book, calendar)"],
    "pasts": ["all_pasts(book)", "calendar_to(book, past)"],
    "shares": ["is_loop(book, candidate)", "share_of(book, weights, loop)", "greatest_share(book, weights)",
               "best_loop(book, weights)", "is_ceiling(book, weights, fraction, candidate)",
               "ceiling(book, weights)"],
    "alike": ["parting_calendar(one, other)", "are_alike(one, other)", "is_stricter(one, other)",
              "idle_limits(book)"],
    "tuning": ["equal_counts(book, number)", "nearest_counts(book, number)", "least_most(book, zones, span)",
               "longest_stay(book, zones)"],
    "wishes": ["are_wishes(book, candidate)", "keeps(book, calendar, days, wishes)",
               "days_kept(book, calendar, wishes)", "longest_kept(book, calendar, wishes)",
               "can_keep(book, calendar, wishes)", "keeping_loop(book, calendar, wishes)",
               "keeping_share(book, calendar, wishes, weights)", "dead_day(book, calendar, wishes)"],
    "sightings": ["is_sighting(book, candidate)", "fits(book, sighting, calendar)", "verdict(book, sighting)",
                  "how_many(book, sighting)", "first_allowed(book, sighting)", "first_forbidden(book, sighting)"],
    "sure": ["sure_days(book, sighting)", "least_wrong(book, sighting)", "corrected(book, sighting)",
             "can_be_one(book, one, other)"],
    "asking": ["settles(book, sighting, days)", "fewest_asked(book, sighting)", "best_day(book, sighting)"],
    "breaches": ["breaches(book, calendar)", "broken_days(book, calendar)", "breaches_of(book, calendar, number)",
                 "fewest_away(book, calendar)", "thinned(book, calendar)"],
    "groups": ["is_group(candidate)", "most_common(group, days)", "common_plan(group, days)", "first_common(group)"],
    "numbering": ["count_allowed(book, days)", "count_with(book, days, many)", "number_of(book, calendar)",
                  "calendar_at(book, days, number)"],
    "formats": ["format_book(book)", "parse_book(text)", "format_calendar(book, calendar)",
                "parse_calendar(book, text)"],
    "naive": ["all_calendars(book, days)", "naive_allowed(book, calendar)", "naive_count(book, days)",
              "naive_parting(one, other, days)"],
}

DESK = ["__init__(self, book)", "add(self, name)", "remove(self, name)", "day(self, entries)", "names(self)",
        "calendar(self, name)", "may(self, name)", "set_limits(self, limits)", "book(self)", "broken(self)",
        "save(self, name)", "editions(self)", "load(self, name)", "undo(self)", "redo(self)", "copy(self)",
        "__eq__(self, other)", "__len__(self)"]

# What the package may use of Python (L8, L25), as far as it needs it.
BUILTINS = ["len", "range", "enumerate", "zip", "min", "max", "sum", "abs", "sorted", "reversed", "int", "str", "bool",
            "list", "tuple", "dict", "set", "isinstance", "any", "all", "divmod", "ValueError", "KeyError"]
METHODS = ["append", "clear", "copy", "count", "endswith", "extend", "find", "get", "index", "insert", "items", "join",
           "keys", "pop", "popleft", "remove", "replace", "rpartition", "setdefault", "split", "startswith", "strip",
           "update", "values"]

LIBRARY = {
    "heapq": ["heappush", "heappop", "heapify", "heapreplace", "heappushpop"],
    "math": ["gcd", "lcm", "isqrt", "comb", "perm", "factorial"],
    "itertools": ["product", "combinations", "permutations", "chain", "accumulate", "pairwise", "islice",
                  "zip_longest"],
    "collections": ["defaultdict", "deque"],
}


def read(name):
    with open(os.path.join(FOLDER, name), "rb") as file:
        return file.read()


NAMES = sorted(name for name in os.listdir(FOLDER) if name != "__pycache__")
SOURCES = {name: read(name) for name in NAMES}
TREES = {name: ast.parse(source) for name, source in SOURCES.items()}


def defined(tree):
    """The names that a file binds at module level by itself."""
    names = []
    for node in tree.body:
        if isinstance(node, (ast.FunctionDef, ast.ClassDef)):
            names.append(node.name)
        elif isinstance(node, ast.Assign):
            names += [target.id for target in node.targets]
    return names


def imports(tree):
    return [node for node in ast.walk(tree) if isinstance(node, (ast.Import, ast.ImportFrom))]


def own_imports(tree):
    """The files of the package that a file imports from."""
    return [node.module.split(".")[1] + ".py" for node in imports(tree) if node.module.startswith("staybounds.")]


def own_methods(tree):
    """The methods of the classes of a file."""
    classes = [node for node in tree.body if isinstance(node, ast.ClassDef)]
    return [node for found in classes for node in found.body if isinstance(node, ast.FunctionDef)]


def own_attributes(tree):
    """The attributes that the code of a file assigns."""
    nodes = [node for node in ast.walk(tree) if isinstance(node, ast.Attribute)]
    return {node.attr for node in nodes if isinstance(node.ctx, ast.Store)}


def bound_names(tree):
    """All names that functions, classes, parameters and assignments bind."""
    for node in ast.walk(tree):
        if isinstance(node, ast.Name) and isinstance(node.ctx, ast.Store):
            yield node.id
        elif isinstance(node, ast.arg):
            yield node.arg
        elif isinstance(node, (ast.FunctionDef, ast.ClassDef)):
            yield node.name


class FilesTest(unittest.TestCase):
    def test_nothing_but_python_files(self):
        self.assertIn("__init__.py", NAMES)
        for name in NAMES:
            self.assertRegex(name, r"\A[a-z0-9_]+\.py\Z")
        self.assertLessEqual(len(NAMES), 100)

    def test_characters(self):
        for name, source in SOURCES.items():
            wrong = [byte for byte in source if byte != 10 and not 32 <= byte <= 126]
            self.assertEqual(wrong, [], name)

    def test_sizes_of_files_and_lines(self):
        for name, source in SOURCES.items():
            lines = source.decode("ascii").split("\n")
            self.assertLessEqual(len(lines), 399 + 1, name)
            self.assertLessEqual(max(len(line) for line in lines), 120, name)

    def test_sizes_of_functions(self):
        for name, tree in TREES.items():
            for node in ast.walk(tree):
                if isinstance(node, (ast.FunctionDef, ast.AsyncFunctionDef, ast.Lambda)):
                    self.assertLessEqual(node.end_lineno - node.lineno + 1, 40, (name, node.lineno))

    def test_no_warnings(self):
        for name, source in SOURCES.items():
            with warnings.catch_warnings():
                warnings.simplefilter("error")
                compile(source, name, "exec")


class NamesTest(unittest.TestCase):
    def test_no_name_of_a_builtin(self):
        for name, tree in TREES.items():
            for bound in bound_names(tree):
                if not bound.startswith("__"):
                    self.assertFalse(hasattr(builtins, bound), (name, bound))

    def test_each_name_is_bound_once_at_module_level(self):
        for name, tree in TREES.items():
            bound = defined(tree) + [alias.name for node in imports(tree) for alias in node.names]
            self.assertEqual(len(bound), len(set(bound)), name)

    def test_nothing_but_plain_names_at_module_level(self):
        for name, tree in TREES.items():
            for at, node in enumerate(tree.body):
                if isinstance(node, ast.Expr):
                    self.assertEqual(at, 0, name)
                    self.assertIsInstance(node.value.value, str)
                else:
                    self.assertIsInstance(node, (ast.ImportFrom, ast.FunctionDef, ast.ClassDef, ast.Assign), name)

    def test_no_name_of_an_import_in_a_function(self):
        for name, tree in TREES.items():
            imported = [alias.name for node in imports(tree) for alias in node.names]
            for bound in bound_names(tree):
                self.assertNotIn(bound, imported, name)

    def test_builtins_and_methods(self):
        for name, tree in TREES.items():
            own = [node.name for node in own_methods(tree)] + sorted(own_attributes(tree))
            for node in ast.walk(tree):
                if isinstance(node, ast.Name) and hasattr(builtins, node.id):
                    self.assertIn(node.id, BUILTINS, name)
                if isinstance(node, ast.Attribute):
                    self.assertIn(node.attr, METHODS + own, name)

    def test_methods_and_attributes(self):
        for name, tree in TREES.items():
            methods = [node.name for node in own_methods(tree)]
            self.assertEqual(len(methods), len(set(methods)), name)
            self.assertEqual(set(methods) & own_attributes(tree), set(), name)
            for node in own_methods(tree):
                self.assertEqual(node.decorator_list, [])
                if node.name.startswith("__"):
                    self.assertIn(node.name, ["__init__", "__eq__", "__len__"])

    def test_no_set_is_changed(self):
        # The desk has a method add, so L24 lets no set have one.
        for name, tree in TREES.items():
            for node in ast.walk(tree):
                if isinstance(node, ast.Attribute):
                    self.assertNotIn(node.attr, ["add", "discard", "sort"], name)

    def test_each_raise_creates_an_error_of_the_package(self):
        allowed = defined(TREES["errors.py"])
        for name, tree in TREES.items():
            for node in ast.walk(tree):
                if isinstance(node, ast.Raise):
                    self.assertIn(node.exc.func.id, allowed, name)

    def test_sums_and_their_kin_take_no_generator_expression(self):
        # The desk compares, so L7 asks for lists there.
        for name, tree in TREES.items():
            found = [node for node in ast.walk(tree) if isinstance(node, (ast.GeneratorExp, ast.Lambda, ast.Global))]
            self.assertEqual(found, [], name)

    def test_no_list_or_dict_inside_another_one_at_module_level(self):
        for name, tree in TREES.items():
            for node in tree.body:
                if isinstance(node, ast.Assign):
                    inner = [part for part in ast.walk(node.value) if part is not node.value]
                    self.assertEqual([part for part in inner if isinstance(part, (ast.List, ast.Dict, ast.Set))], [], name)

    def test_no_error_of_pythons_own_is_caught(self):
        allowed = defined(TREES["errors.py"]) + ["KeyError", "ZeroDivisionError"]
        for name, tree in TREES.items():
            for node in ast.walk(tree):
                if isinstance(node, ast.ExceptHandler):
                    caught = node.type.elts if isinstance(node.type, ast.Tuple) else [node.type]
                    for error in caught:
                        self.assertIn(error.id, allowed, name)

    def test_imports(self):
        for name, tree in TREES.items():
            for node in imports(tree):
                self.assertIsInstance(node, ast.ImportFrom, name)
                self.assertEqual(node.level, 0, name)
                if node.module in LIBRARY:
                    names = LIBRARY[node.module]
                else:
                    self.assertTrue(node.module.startswith("staybounds."), name)
                    names = defined(TREES[node.module.split(".")[1] + ".py"])
                for alias in node.names:
                    self.assertIsNone(alias.asname, name)
                    self.assertIn(alias.name, names, name)

    def test_imports_are_used(self):
        for name, tree in TREES.items():
            used = [node.id for node in ast.walk(tree) if isinstance(node, ast.Name)]
            for node in imports(tree):
                for alias in node.names:
                    self.assertIn(alias.name, used, name)

    def test_no_two_files_import_from_each_other(self):
        reached = {name: set(own_imports(tree)) for name, tree in TREES.items()}
        for _ in NAMES:
            for name in NAMES:
                for other in sorted(reached[name]):
                    reached[name] |= reached[other]
        for name in NAMES:
            self.assertNotIn(name, reached[name])


class InterfaceTest(unittest.TestCase):
    def test_each_function_stands_in_its_file_with_its_arguments(self):
        for name, rows in INTERFACE.items():
            found = import_module("staybounds." + name)
            nodes = {node.name: node for node in TREES[name + ".py"].body if isinstance(node, ast.FunctionDef)}
            for row in rows:
                function, arguments = re.fullmatch(r"(\w+)\((.*)\)", row).groups()
                self.assertIn(function, nodes)
                wanted = arguments.split(", ")
                self.assertEqual([arg.arg for arg in nodes[function].args.args], wanted)
                self.assertEqual(list(inspect.signature(getattr(found, function)).parameters), wanted)

    def test_the_desk_has_its_methods_itself(self):
        found = {node.name: [arg.arg for arg in node.args.args] for node in own_methods(TREES["desk.py"])}
        for row in DESK:
            method, arguments = re.fullmatch(r"(\w+)\((.*)\)", row).groups()
            self.assertEqual(found[method], arguments.split(", "), method)
        public = [method for method in found if not method.startswith("_")]
        self.assertEqual(len(public), len([row for row in DESK if not row.startswith("_")]))
        self.assertIn("Desk", defined(TREES["desk.py"]))

    def test_each_file_is_one_of_the_interface_or_helps(self):
        files = ["__init__", "errors", "desk", "walks", "cycles"] + list(INTERFACE)
        self.assertEqual(NAMES, sorted(name + ".py" for name in files))
