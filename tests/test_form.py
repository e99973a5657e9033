"""The form of the package: the names of the interface, and the sizes and imports that the program keeps to."""

import ast
import builtins
import importlib
import inspect
import pathlib
import unittest

PACKAGE = pathlib.Path(__file__).resolve().parent.parent / "afterfall"
FILES = sorted(PACKAGE.rglob("*.py"))

INTERFACE = {
    "cells": {"is_content": "thing", "is_pattern": "cells, thing", "matches": "pattern, content",
              "both": "cells, pattern, other"},
    "plans": {"Plan": "base, width, steps"},
    "texts": {"format_plan": "plan", "parse_plan": "text"},
    "falls": {"is_fall": "plan, thing", "content_after": "plan, fall", "epoch_in": "plan, fall",
              "is_found": "plan, fall, pattern"},
    "claims": {"is_claims": "plan, thing", "fits": "plan, claims, fall", "must_ahead": "plan, claims, piece, other",
               "sure_in": "plan, claims, epoch"},
    "finding": {"find": "plan, pattern, claims", "shut": "plan, pattern, claims",
                "is_shut": "plan, pattern, claims, thing"},
    "sure": {"surely_came": "plan, pattern, claims", "surely_lost": "plan, pattern, claims",
             "surely_ahead": "plan, pattern, claims", "first_fall": "plan, pattern, claims"},
    "worths": {"worths_of": "plan, pattern, claims, cell", "together": "plan, pattern, claims, cells"},
    "contents": {"next_content": "plan, pattern, content", "contents": "plan, pattern, most"},
    "same": {"only": "plan, other", "leave_the_same": "plan, other"},
    "guards": {"harm": "plan, guards", "is_harm": "plan, guards, thing"},
    "barriers": {"gaps": "plan", "with_barriers": "plan, chosen", "shutters": "plan, fall",
                 "cheapest": "plan, guards, prices", "is_safe": "plan, guards, thing"},
    "bills": {"bill": "plan, guards, prices, number", "is_bill": "plan, guards, prices, number, thing"},
    "makers": {"straight": "olds, news", "switched": "olds, news, barriers", "logged": "olds, news, barriers",
               "log_rules": "olds, news, barrier"},
    "restarts": {"restart": "plan, rules, content", "is_history": "plan, rules, thing",
                 "content_behind": "plan, rules, history", "reached": "plan, rules", "unsafe": "plan, rules, guards",
                 "is_unsafe": "plan, rules, guards, thing", "closed": "plan, rules, guards",
                 "is_closed": "plan, rules, guards, thing", "rests": "plan, rules", "is_rests": "plan, rules, thing",
                 "circle": "plan, rules", "is_circle": "plan, rules, thing"},
}
LIBRARY = ("heapq", "math", "itertools", "collections", "__future__")


class Interface(unittest.TestCase):
    def test_each_name_is_defined_in_its_file_with_its_parameters(self):
        for file, names in INTERFACE.items():
            module = importlib.import_module(f"afterfall.{file}")
            for name, parameters in names.items():
                thing = getattr(module, name)
                self.assertEqual(thing.__module__, f"afterfall.{file}")
                self.assertEqual(", ".join(inspect.signature(thing).parameters), parameters, name)

    def test_what_a_plan_has_is_defined_in_its_class(self):
        from afterfall.plans import Plan
        for name in ("base", "width", "steps", "pieces", "epochs", "epoch_of", "with_step", "without_step", "__eq__"):
            self.assertIn(name, vars(Plan))


class Form(unittest.TestCase):
    def trees(self):
        for path in FILES:
            yield path.name, ast.parse(path.read_text(encoding="ascii"))

    def test_files_and_lines(self):
        self.assertIn(PACKAGE / "__init__.py", FILES)
        for path in PACKAGE.rglob("*"):
            self.assertTrue(path.suffix == ".py" or "__pycache__" in str(path), path)
        for path in FILES:
            text = path.read_text(encoding="ascii")
            self.assertLessEqual(len(text.splitlines()), 399, path)
            for line in text.split("\n"):
                self.assertLessEqual(len(line), 120, line)
                self.assertTrue(all(" " <= sign <= "~" for sign in line), line)

    def test_functions_have_at_most_40_lines(self):
        for name, tree in self.trees():
            for node in ast.walk(tree):
                if isinstance(node, ast.FunctionDef):
                    self.assertLessEqual(node.end_lineno - node.lineno + 1, 40, (name, node.name))

    def test_imports(self):
        for name, tree in self.trees():
            for node in ast.walk(tree):
                self.assertNotIsInstance(node, ast.Import, name)
                if isinstance(node, ast.ImportFrom):
                    self.assertTrue(node.module.startswith("afterfall.") or node.module in LIBRARY, (name, node.module))
                    for alias in node.names:
                        if node.module.startswith("afterfall."):
                            thing = getattr(importlib.import_module(node.module), alias.name)
                            home = getattr(thing, "__module__", node.module)
                            self.assertEqual(home, node.module, (name, alias.name))

    def test_names(self):
        for name, tree in self.trees():
            nodes = list(ast.walk(tree))
            taken = {alias.name for node in nodes if isinstance(node, ast.ImportFrom) for alias in node.names}
            used = {node.id for node in nodes if isinstance(node, ast.Name)}
            self.assertLessEqual(taken, used, name)
            taken |= {node.name for node in nodes if isinstance(node, ast.ClassDef)} | set(dir(builtins))
            given = {node.arg for node in nodes if isinstance(node, ast.arg)}
            given |= {node.id for node in nodes if isinstance(node, ast.Name) and isinstance(node.ctx, ast.Store)}
            self.assertEqual(taken & given, set(), name)

    def test_no_attribute_has_the_name_of_a_property(self):
        properties, stored = set(), set()
        for _, tree in self.trees():
            for node in ast.walk(tree):
                if isinstance(node, ast.FunctionDef) and node.decorator_list:
                    properties.add(node.name)
                if isinstance(node, ast.Attribute) and isinstance(node.ctx, ast.Store):
                    stored.add(node.attr)
        self.assertTrue(properties)
        self.assertEqual(properties & stored, set())

    def test_what_is_not_used(self):
        kinds = (ast.Global, ast.AsyncFunctionDef, ast.Await, ast.Div)
        for name, tree in self.trees():
            for node in ast.walk(tree):
                self.assertNotIsInstance(node, kinds, (name, getattr(node, "lineno", 0)))
                if isinstance(node, ast.Constant):
                    self.assertNotIsInstance(node.value, float, name)


if __name__ == "__main__":
    unittest.main()
