"""The whole program: calls by position and by name, any objects, and that nothing hangs on what was asked before ([2])."""

import copy
import importlib
import random
import unittest

from afterfall.board import Board
from afterfall.errors import FallError
from afterfall.plans import Plan
from afterfall.runs import Run
from afterfall.shell import Shell
from afterfall.stores import Store
from tests.oracle import NONE, ODD_THINGS, inner_lists
from tests.test_form import INTERFACE

PLAN = Plan((2, 0, 0), 1, [(0, (1,)), (1, (1,)), None, (2, (1, ))])
RULES = [({0: (1,), 2: (0,)}, [(1, (2,)), (0, (0,)), None, (2, (2,))]), ({1: (1,)}, [(2, (1,)), (1, (0,))])]
OTHER = Plan((2, 0, 0), 1, [(0, (1, 1, 1))])
GUARDS = [{2: (7,)}, {0: (0,), 1: (0,)}, {0: (2,), 2: (1,)}]
PRICES = {1: 5}
GAP_PRICES = {(0, 1): 5, (1, 1): 3, (2, 1): 4}
BILL = ("unsafe", 1, [[1], [1]], [("spent",), ("spent",)])
EVERY = {"plan": PLAN, "rules": RULES, "guards": GUARDS, "pattern": {0: (1,), 1: (0, 1)}, "content": (1, 0, 0),
         "claims": ([0], [], []), "cells": 3, "cell": 1, "epoch": 1, "piece": 0, "fall": [1, 0], "prices": GAP_PRICES, "number": 2,
         "text": "plan 1\nbase 0 0\nwrite 0 1 1", "most": 5, "chosen": [(1, 1)], "history": [[0], [0]], "index": 0, "falls": 1,
         "base": (1, 2), "width": 2, "steps": [(0, (1, 2)), None], "olds": (0, 1), "news": (1, 1), "barrier": True,
         "barriers": (True,), "thing": None}
# What some functions are asked instead: by their file, or by their own name.
SOME = {"cells": {"other": {0: (1, 2)}, "thing": {0: (1, 2)}}, "finding": {"thing": [("stuck", {}), ("there", 2)]},
        "same": {"other": OTHER}, "claims": {"other": 1, "thing": ([0], [], [])}, "falls": {"thing": [1, 0, 2]},
        "worths": {"cells": [2, 0]}, "guards": {"thing": (2, [1])}, "barriers": {"prices": PRICES, "chosen": [1], "thing": [1]},
        "bills": {"prices": PRICES, "thing": ("found", 2, [], [])}, "logged": {"barriers": (True, False, True)},
        "is_history": {"thing": [[0], [0]]}, "is_unsafe": {"thing": (1, [[1], [1]])}, "is_closed": {"thing": [(0, 0, 0), (1, 0, 0)]},
        "is_rests": {"thing": {(1, 0, 0): 0, (1, 1, 0): 1}}, "is_circle": {"thing": [(1, 0, 0), (1, 0, 0)]},
        "safegaps": {"thing": [(0, 1), (2, 1)]}, "safebills": {"thing": BILL},
        "fallcounts": {"thing": {(1, 0, 0): 1, (1, 1, 1): 0}}, "ran": {"thing": [(1, 0, 0), (1, 1, 1)]},
        "firsts": {"thing": [(1, 0, 0), (1, 1, 0), (1, 1, 1)]}}


def functions():
    """All functions and constructors of the interface, with right arguments by name, in their order."""
    told = []
    for file, names in INTERFACE.items():
        for name in [name for name in names if names[name]]:
            asked = {**EVERY, **SOME.get(file, {}), **SOME.get(name, {})}
            told.append((getattr(importlib.import_module(f"afterfall.{file}"), name),
                         {key: asked[key] for key in names[name].split(", ")}))
    return told


def said(thing):
    """A result as one can compare it, the order of the keys of dicts among it."""
    return [type(thing).__name__, repr([(name, repr(part)) for name, part in [("all", plain(thing))]])]


def plain(thing):
    if isinstance(thing, Plan):
        return ("plan", thing.base, thing.width, thing.steps)
    if isinstance(thing, (Store, Run)):
        return ("live", plain(getattr(thing, "plan", None)), thing.came, thing.content, len(thing))
    if isinstance(thing, (list, tuple)):
        return type(thing)(plain(part) for part in thing)
    return thing


def called(function, *arguments, **more):
    """What a call returns, or the error that it raises, as one can compare it."""
    try:
        return said(function(*arguments, **more))
    except FallError as error:
        return [type(error).__name__, repr(vars(error))]


def by_position(function, arguments):
    """The same as `called`, with falls by name, as it has to be."""
    places = [arguments[key] for key in arguments if key != "falls"]
    return called(function, *places, **{key: arguments[key] for key in arguments if key == "falls"})


def any_object(chance, depth=3):
    """Any object as [2] describes it."""
    which = chance.random()
    if which < 0.45 or not depth:
        return chance.choice((0, 1, 2, 3, -1, 7, 8, True, False, None, "", "a", "spent", "0", 10 ** 39, chance.choice(ODD_THINGS)))
    parts = [any_object(chance, depth - 1) for _ in range(chance.randint(0, 3))]
    if which < 0.7:
        return parts
    if which < 0.9:
        return tuple(parts)
    keys = [chance.choice((0, 1, 2, -1, "a", True, (0, 1), (True, 1), (1, 0, 0), (1, 0, "0"), ())) for _ in parts]
    return dict(zip(keys, parts))


def bent(chance, thing):
    """A thing with parts changed, left out or put in twice, or any other object."""
    if chance.random() < 0.2 or not isinstance(thing, (list, tuple, dict)):
        return any_object(chance)
    if isinstance(thing, dict):
        held = dict(thing)
        for key in list(thing):
            if chance.random() < 0.3:
                part = held.pop(key)
                held[chance.choice((key, -1, "a", True, (0, True), (key, 0), 9))] = part if chance.random() < 0.5 else bent(chance, part)
        return held
    parts = [bent(chance, part) if chance.random() < 0.3 else part for part in thing]
    if parts and chance.random() < 0.3:
        at = chance.randrange(len(parts))
        parts[at:at + 1] = chance.choice(([], [parts[at]] * 2))
    return parts if isinstance(thing, list) == (chance.random() < 0.9) else tuple(parts)


class AllFunctions(unittest.TestCase):
    def test_right_arguments_are_right(self):
        self.assertEqual(len(functions()), 74)
        for function, arguments in functions():
            wrong = by_position(function, arguments)[0].startswith(("Invalid", "Unknown", "TooMany", "ParseError"))
            self.assertFalse(wrong, function)

    def test_by_position_and_by_name(self):
        chance = random.Random(103)
        for function, arguments in functions():
            wanted = by_position(function, arguments)
            for _ in range(3):
                names = chance.sample(list(arguments), len(arguments))
                self.assertEqual(called(function, **{name: arguments[name] for name in names}), wanted, function)
                some = [name for name in arguments if name != "falls"]
                many = chance.randint(0, len(some))
                told = {name: arguments[name] for name in names if name not in some[:many]}
                self.assertEqual(called(function, *[arguments[name] for name in some[:many]], **told), wanted, function)

    def test_what_is_said_does_not_hang_on_what_was_asked_before(self):
        chance, first = random.Random(104), {}
        for turn in range(4):
            for at, (function, arguments) in chance.sample(list(enumerate(functions())), len(functions())):
                told = by_position(function, arguments)
                self.assertEqual(first.setdefault(at, told), told, function)

    def test_a_result_that_was_changed_changes_no_other_one(self):
        for function, arguments in functions():
            try:
                results = [function(**arguments) for _ in range(2)]
            except FallError:
                continue
            wanted, held = said(results[1]), [inner_lists(result) for result in results]
            self.assertEqual(len({id(part) for part in held[0] + held[1]}), len(held[0]) + len(held[1]), function)
            passed = {id(part) for key in arguments for part in inner_lists(arguments[key])}
            self.assertEqual(passed & {id(part) for part in held[0]}, set(), function)
            for part in held[0]:
                part.clear()
            self.assertEqual([said(results[1]), said(function(**arguments))], [wanted, wanted], function)

    def test_dicts_that_are_returned_ascend(self):
        for function, arguments in functions():
            try:
                held = inner_lists(function(**arguments))
            except FallError:
                continue
            for part in held:
                self.assertEqual(list(part), sorted(part) if isinstance(part, dict) else list(part))

    def test_the_order_of_the_keys_means_nothing(self):
        def turned(thing):
            if isinstance(thing, dict):
                return {key: turned(thing[key]) for key in reversed(thing)}
            return type(thing)(turned(part) for part in thing) if isinstance(thing, (list, tuple)) else thing
        for function, arguments in functions():
            other = {key: turned(arguments[key]) for key in arguments}
            self.assertEqual(called(function, **other), called(function, **arguments), function)

    def test_arguments_stay(self):
        for function, arguments in functions():
            told = {key: arguments[key] if isinstance(arguments[key], Plan) else copy.deepcopy(arguments[key]) for key in arguments}
            called(function, **told)
            for key in told:
                self.assertEqual(said(told[key]), said(arguments[key]), function)

    def test_any_objects_lead_to_errors_of_the_program_alone(self):
        chance, seen = random.Random(105), {}
        for _ in range(60):
            for function, arguments in functions():
                if function.__name__ in ("format_plan", "only", "leave_the_same", "gaps"):
                    continue
                told = dict(arguments)
                for key in told:
                    if key not in ("plan", "cells" if function.__name__ in ("both", "is_pattern") else "") and chance.random() < 0.5:
                        told[key] = bent(chance, told[key]) if key != "text" else any_object(chance)
                result = called(function, **told)
                seen[result[0]] = seen.get(result[0], 0) + 1
                if function.__name__.startswith("is_"):
                    self.assertTrue(result[0] == "bool" or result[0].startswith("Invalid"), (function, told, result))
        self.assertTrue(len(seen) > 25, seen)

    def test_things_that_were_returned_with_a_few_parts_changed(self):
        chance, papers = random.Random(106), []
        for function, arguments in functions():
            try:
                papers.append(function(**arguments))
            except FallError:
                continue
        for _ in range(40):
            for function, arguments in functions():
                if "thing" in arguments:
                    thing = bent(chance, chance.choice(papers))
                    result = called(function, **{**arguments, "thing": plain(thing)})
                    self.assertEqual(result[0], "bool", (function, thing))


class LiveObjects(unittest.TestCase):
    CALLS = {Store: {"write": ("first", "worths"), "barrier": (), "arrive": ("piece",), "lose": (), "undo": (), "can_hold": ("pattern",)},
             Board: {"create": ("name", "text"), "put": ("name", "first", "worths"), "bar": ("name",), "land": ("name", "piece"),
                     "crash": ("name",), "play": ("name", "count"), "drop": ("name",), "mark": ("label",), "back": ("label",),
                     "batch": ("commands",), "holds": ("name", "pattern"), "content_of": ("name",), "came_of": ("name",),
                     "ready_of": ("name",), "text_of": ("name",)},
             Shell: {"run": ("line",)},
             Run: {"arrive": ("piece",), "fall": (), "put_in": ("gap",), "take_out": ("gap",), "undo": ()}}
    GIVEN = {"first": 0, "worths": (1,), "piece": 0, "pattern": {0: (1,)}, "name": "a", "text": "plan 1\nbase 0 0\nwrite 0 1 1",
             "count": 1, "label": "m", "commands": [("create", "b", "plan 1\nbase 0 0")], "line": "names", "gap": (0, 1)}

    def made(self):
        return {Store: Store((0, 0), 1), Board: Board(), Shell: Shell(), Run: Run(PLAN, RULES)}

    def test_by_position_by_name_and_with_any_objects(self):
        chance, seen = random.Random(107), {}
        for _ in range(40):
            pairs = [self.made(), self.made()]
            for _ in range(60):
                kind = chance.choice((Store, Board, Board, Shell, Run))
                name, keys = chance.choice(list(self.CALLS[kind].items()))
                given = {key: bent(chance, self.GIVEN[key]) if chance.random() < 0.25 else self.GIVEN[key] for key in keys}
                one = called(getattr(pairs[0][kind], name), *given.values())
                two = called(getattr(pairs[1][kind], name), **{key: given[key] for key in reversed(keys)})
                self.assertEqual(one, two)
                seen[one[0]] = True
        self.assertTrue(len(seen) > 18, seen)


if __name__ == "__main__":
    unittest.main()
