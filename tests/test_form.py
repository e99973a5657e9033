"""The form of the package: the names of the interface, and the sizes and imports that the program keeps to."""

import ast
import builtins
import importlib
import inspect
import io
import pathlib
import tokenize
import unittest

PACKAGE = pathlib.Path(__file__).resolve().parent.parent / "afterfall"
FILES = sorted(PACKAGE.rglob("*.py"))

INTERFACE = {
    "cells": {"is_content": "thing", "is_pattern": "cells, thing", "matches": "pattern, content",
              "both": "cells, pattern, other"},
    "plans": {"Plan": "base, width, steps"},
    "texts": {"format_plan": "plan", "parse_plan": "text"},
    "falls": {"is_fall": "plan, thing", "content_after": "plan, fall", "epoch_in": "plan, fall",
              "is_found": "plan, fall, pattern"},
    "claims": {"is_claims": "plan, thing", "fits": "plan, claims, fall", "must_ahead": "plan, claims, piece, other",
               "sure_in": "plan, claims, epoch"},
    "finding": {"find": "plan, pattern, claims", "shut": "plan, pattern, claims",
                "is_shut": "plan, pattern, claims, thing"},
    "sure": {"surely_came": "plan, pattern, claims", "surely_lost": "plan, pattern, claims",
             "surely_ahead": "plan, pattern, claims", "first_fall": "plan, pattern, claims"},
    "worths": {"worths_of": "plan, pattern, claims, cell", "together": "plan, pattern, claims, cells"},
    "contents": {"next_content": "plan, pattern, content", "contents": "plan, pattern, most"},
    "same": {"only": "plan, other", "leave_the_same": "plan, other"},
    "guards": {"harm": "plan, guards", "is_harm": "plan, guards, thing"},
    "barriers": {"gaps": "plan", "with_barriers": "plan, chosen", "shutters": "plan, fall",
                 "cheapest": "plan, guards, prices", "is_safe": "plan, guards, thing"},
    "bills": {"bill": "plan, guards, prices, number", "is_bill": "plan, guards, prices, number, thing"},
    "makers": {"straight": "olds, news", "switched": "olds, news, barriers", "logged": "olds, news, barriers",
               "log_rules": "olds, news, barrier"},
    "restarts": {"restart": "plan, rules, content", "is_history": "plan, rules, thing",
                 "content_behind": "plan, rules, history", "reached": "plan, rules", "unsafe": "plan, rules, guards",
                 "is_unsafe": "plan, rules, guards, thing", "closed": "plan, rules, guards",
                 "is_closed": "plan, rules, guards, thing", "rests": "plan, rules", "is_rests": "plan, rules, thing",
                 "circle": "plan, rules", "is_circle": "plan, rules, thing"},
    "stores": {"Store": "base, width"},
    "board": {"Board": ""},
    "shell": {"Shell": ""},
    "safegaps": {"safe_gaps": "plan, rules", "with_gaps": "plan, rules, chosen", "history_gaps": "plan, rules, history",
                 "cheapest_safe": "plan, rules, guards, prices, falls",
                 "is_safe_with": "plan, rules, guards, thing, falls"},
    "safebills": {"safe_bill": "plan, rules, guards, prices, number, falls",
                  "is_safe_bill": "plan, rules, guards, prices, number, thing, falls"},
    "fallcounts": {"fewest_falls": "plan, rules, guards", "fall_levels": "plan, rules, guards, number",
                   "is_fall_levels": "plan, rules, guards, number, thing"},
    "ran": {"ran_surely": "plan, rules, content", "history_without": "plan, rules, content, index",
            "ran_paper": "plan, rules, content, index", "is_ran_paper": "plan, rules, content, index, thing",
            "first_left": "plan, rules, content"},
    "firsts": {"found_after": "plan, rules, pattern, claims", "after_paper": "plan, rules, pattern, claims",
               "is_after_paper": "plan, rules, pattern, claims, thing", "first_came": "plan, rules, pattern"},
    "runs": {"TooLate": None, "AtRest": None, "Run": "plan, rules"},
}
METHODS = {
    "plans.Plan": {"base": None, "width": None, "steps": None, "pieces": None, "epochs": None, "epoch_of": "piece",
                   "with_step": "index, step", "without_step": "index", "__eq__": "other"},
    "stores.Store": {"write": "first, worths", "barrier": "", "arrive": "piece", "lose": "", "undo": "", "plan": None,
                     "came": None, "content": None, "ready": None, "can_hold": "pattern", "__len__": "", "copy": ""},
    "board.Board": {"create": "name, text", "put": "name, first, worths", "bar": "name", "land": "name, piece",
                    "crash": "name", "play": "name, count", "drop": "name", "mark": "label", "back": "label",
                    "batch": "commands", "names": None, "content_of": "name", "came_of": "name", "ready_of": "name",
                    "text_of": "name", "holds": "name, pattern", "log": None, "copy": ""},
    "shell.Shell": {"run": "line"},
    "runs.Run": {"arrive": "piece", "fall": "", "put_in": "gap", "take_out": "gap", "undo": "", "history": None,
                 "came": None, "content": None, "rule": None, "barriers": None, "__len__": "", "copy": ""},
}
BUILTINS = """len range enumerate zip min max sum abs sorted reversed int str bool bytes list tuple dict set isinstance ord
repr any all divmod pow super property ValueError""".split()
BUILTIN_METHODS = """append clear copy count endswith extend find get index insert isdigit items join keys pop remove replace
reverse rfind setdefault split startswith strip update values partition bit_length""".split()
LIBRARY = ("heapq", "math", "itertools", "collections", "__future__")


class Interface(unittest.TestCase):
    def test_each_name_is_defined_in_its_file_with_its_parameters(self):
        for file, names in INTERFACE.items():
            module = importlib.import_module(f"afterfall.{file}")
            for name, parameters in names.items():
                thing = getattr(module, name)
                self.assertEqual(thing.__module__, f"afterfall.{file}")
                if parameters is not None:
                    self.assertEqual(", ".join(inspect.signature(thing).parameters), parameters, name)

    def test_falls_stands_behind_a_star(self):
        for file, names in INTERFACE.items():
            for name in [name for name in names if names[name]]:
                told = inspect.signature(getattr(importlib.import_module(f"afterfall.{file}"), name)).parameters
                for parameter in told.values():
                    kind = parameter.KEYWORD_ONLY if parameter.name == "falls" else parameter.POSITIONAL_OR_KEYWORD
                    self.assertEqual([parameter.kind, parameter.default],
                                     [kind, None if parameter.name == "falls" else parameter.empty], name)

    def test_methods_are_defined_in_the_class_itself(self):
        for where, names in METHODS.items():
            file, name = where.split(".")
            held = vars(getattr(importlib.import_module(f"afterfall.{file}"), name))
            for method, parameters in names.items():
                self.assertIn(method, held, where)
                if parameters is None:
                    self.assertIsInstance(held[method], property)
                else:
                    told = list(inspect.signature(held[method]).parameters)
                    self.assertEqual(told, ["self"] + parameters.replace(",", "").split(), (where, method))


class Form(unittest.TestCase):
    def trees(self):
        for path in FILES:
            yield path.name, ast.parse(path.read_text(encoding="ascii"))

    def test_files_and_lines(self):
        self.assertIn(PACKAGE / "__init__.py", FILES)
        for path in PACKAGE.rglob("*"):
            self.assertTrue(path.suffix == ".py" or "__pycache__" in str(path), path)
        for path in FILES:
            text = path.read_text(encoding="ascii")
            self.assertLessEqual(len(text.splitlines()), 399, path)
            for line in text.split("\n"):
                self.assertLessEqual(len(line), 120, line)
                self.assertTrue(all(" " <= sign <= "~" for sign in line), line)

    def test_functions_have_at_most_40_lines(self):
        for name, tree in self.trees():
            for node in ast.walk(tree):
                if isinstance(node, ast.FunctionDef):
                    self.assertLessEqual(node.end_lineno - node.lineno + 1, 40, (name, node.name))

    def test_imports(self):
        for name, tree in self.trees():
            for node in ast.walk(tree):
                self.assertNotIsInstance(node, ast.Import, name)
                if isinstance(node, ast.ImportFrom):
                    self.assertTrue(node.module.startswith("afterfall.") or node.module in LIBRARY, (name, node.module))
                    for alias in node.names:
                        if node.module.startswith("afterfall."):
                            thing = getattr(importlib.import_module(node.module), alias.name)
                            home = getattr(thing, "__module__", node.module)
                            self.assertEqual(home, node.module, (name, alias.name))

    def test_names(self):
        for name, tree in self.trees():
            nodes = list(ast.walk(tree))
            taken = {alias.name for node in nodes if isinstance(node, ast.ImportFrom) for alias in node.names}
            used = {node.id for node in nodes if isinstance(node, ast.Name)}
            self.assertLessEqual(taken, used, name)
            taken |= {node.name for node in nodes if isinstance(node, ast.ClassDef)} | set(dir(builtins))
            given = {node.arg for node in nodes if isinstance(node, ast.arg)}
            given |= {node.id for node in nodes if isinstance(node, ast.Name) and isinstance(node.ctx, ast.Store)}
            self.assertEqual(taken & given, set(), name)

    def test_no_attribute_has_the_name_of_a_property(self):
        properties, stored = set(), set()
        for _, tree in self.trees():
            for node in ast.walk(tree):
                if isinstance(node, ast.FunctionDef) and node.decorator_list:
                    properties.add(node.name)
                if isinstance(node, ast.Attribute) and isinstance(node.ctx, ast.Store):
                    stored.add(node.attr)
        self.assertTrue(properties)
        self.assertEqual(properties & stored, set())

    def test_what_is_not_used(self):
        kinds = (ast.Global, ast.AsyncFunctionDef, ast.Await, ast.Div)
        for name, tree in self.trees():
            for node in ast.walk(tree):
                self.assertNotIsInstance(node, kinds, (name, getattr(node, "lineno", 0)))
                if isinstance(node, ast.Constant):
                    self.assertNotIsInstance(node.value, float, name)

    def test_builtins_and_methods(self):
        own = set()
        for _, tree in self.trees():
            own |= {node.name for node in ast.walk(tree) if isinstance(node, ast.FunctionDef)}
        for name, tree in self.trees():
            for node in ast.walk(tree):
                if isinstance(node, ast.Name) and node.id in dir(builtins):
                    self.assertIn(node.id, BUILTINS, (name, node.lineno))
                if isinstance(node, ast.Call) and isinstance(node.func, ast.Attribute):
                    self.assertIn(node.func.attr, own | set(BUILTIN_METHODS) | {"__init__"}, (name, node.lineno))

    def test_calls_and_comparisons(self):
        for name, tree in self.trees():
            for node in ast.walk(tree):
                where = (name, getattr(node, "lineno", 0))
                self.assertNotIsInstance(node, (ast.GeneratorExp, ast.SetComp, ast.Set, ast.Yield, ast.YieldFrom), where)
                if isinstance(node, ast.Starred):
                    self.assertIsInstance(node.value, ast.Name, where)
                if isinstance(node, ast.Compare) and isinstance(node.ops[0], (ast.Is, ast.IsNot)):
                    self.assertIn(ast.unparse(node.comparators[0]), ("None", "True", "False"), where)
                if isinstance(node, ast.FunctionDef):
                    self.assertIn([ast.unparse(part) for part in node.decorator_list], ([], ["property"]), where)

    def test_sets_are_made_where_they_are_sorted_or_measured(self):
        for name, tree in self.trees():
            held = [argument for node in ast.walk(tree) if isinstance(node, ast.Call) for argument in node.args
                    if ast.unparse(node.func) in ("len", "sorted")]
            for node in ast.walk(tree):
                if isinstance(node, ast.Call) and ast.unparse(node.func) == "set":
                    self.assertIn(node, held, (name, node.lineno))

    def test_views_and_ranges_are_gone_through_at_once(self):
        for name, tree in self.trees():
            heads = [node.iter for node in ast.walk(tree) if isinstance(node, (ast.For, ast.comprehension))]
            inner = [node.args[0] for node in ast.walk(tree) if isinstance(node, ast.Call) and node.args
                     and ast.unparse(node.func) in ("list", "tuple", "dict", "sorted", "sum", "enumerate", "reversed")]
            for node in ast.walk(tree):
                if isinstance(node, ast.Call) and ast.unparse(node.func).split(".")[-1] in (
                        "zip", "enumerate", "reversed", "range", "items", "keys", "values"):
                    self.assertIn(node, heads + inner, (name, node.lineno))

    def test_strings(self):
        for path in FILES:
            for token in tokenize.generate_tokens(io.StringIO(path.read_text(encoding="ascii")).readline):
                if token.type == tokenize.STRING:
                    self.assertNotIn("%", token.string, (path.name, token.start))
                    bare = token.string.replace("\\n", "").replace("\\t", "").replace("\\\\", "")
                    self.assertNotIn("\\", bare, (path.name, token.start))


if __name__ == "__main__":
    unittest.main()
