"""How many falls must be broken off until harm is done ([2], [32])."""

import random
import unittest

from afterfall.errors import InvalidGuards, InvalidNumber, InvalidRules, TooMany
from afterfall.fallcounts import fall_levels, fewest_falls, is_fall_levels
from afterfall.plans import Plan
from afterfall.restarts import is_history
from tests.histories import Ways, any_case, broken_in, does_harm, is_level_dict, is_past
from tests.oracle import ODD_THINGS, any_guards, any_plan, any_rules
from tests.test_bills import WRONG_NUMBERS
from tests.test_guards import WRONG_GUARDS
from tests.test_restarts import WRONG_RULES, counted

EXAMPLE = Plan((2, 0), 1, [(0, (1,))])
RULES = [({0: (1,)}, [(1, (1,)), (0, (0,))])]
GUARDS = [{0: (0,), 1: (0,)}]
LEVELS = {(0, 0): 1, (0, 1): 0, (1, 0): 0, (1, 1): 1, (2, 0): 1}


def changed_levels(chance, levels):
    """Levels with keys or integers changed, left out or put in, perhaps one that is none at the end."""
    levels = dict(levels)
    for _ in range(chance.randint(1, 2)):
        which, key = chance.random(), chance.choice(list(levels) or [(0, 0)])
        if which < 0.5:
            levels[key] = max(0, levels.get(key, 0) + chance.choice((-1, 1, 1, 2)))
        elif which < 0.65:
            levels.pop(key, None)
        elif which < 0.8:
            levels[tuple(chance.randrange(3) for _ in key)] = chance.randrange(3)
        else:
            levels = {other: level + 1 for other, level in levels.items()}
    if chance.random() < 0.1:
        levels[chance.choice(list(levels) or [0])] = chance.choice((-1, True, False, None, "0", (0,)))
    if chance.random() < 0.05:
        levels[chance.choice(((0,), (0,) * 4, 0, "0", (8, 0), (0, "0"), None))] = 0
    return levels


class Examples(unittest.TestCase):
    def test_those_of_the_document(self):
        self.assertEqual([fewest_falls(EXAMPLE, RULES, GUARDS), fall_levels(EXAMPLE, RULES, GUARDS, 2)],
                         [(1, 0, [[0], [1]]), None])
        self.assertIs(is_fall_levels(EXAMPLE, RULES, GUARDS, 1, LEVELS), True)

    def test_no_harm(self):
        for guards in ([], [{0: (7,)}], [{0: (1,)}]):
            self.assertIsNone(fewest_falls(EXAMPLE, RULES, guards))
            for number in (0, 1, 7, 10 ** 39, 10 ** 40 - 1):
                levels = fall_levels(EXAMPLE, RULES, guards, number)
                self.assertIs(is_fall_levels(EXAMPLE, RULES, guards, number, levels), True)
                self.assertIs(is_fall_levels(EXAMPLE, RULES, guards, number, LEVELS), True)

    def test_harm_without_a_fall_that_is_broken_off(self):
        self.assertEqual(fewest_falls(EXAMPLE, RULES, [{0: (2,), 1: (1,)}, {0: (0,), 1: (1,)}])[:2], (0, 1))
        self.assertEqual(fewest_falls(Plan((0,), 1, []), [], [{}]), (0, 0, [[]]))
        self.assertEqual(fall_levels(Plan((0,), 1, []), [], [{}], 0), {(0,): 0})
        self.assertIsNone(fall_levels(Plan((0,), 1, []), [], [{}], 1))

    def test_a_plan_of_barriers_is_never_broken_off(self):
        rules = [({0: (0,), 1: (0,)}, [None, None]), ]
        self.assertEqual(fall_levels(Plan((0, 0), 1, [None]), rules, [], 5), {(0, 0): 0})
        self.assertIs(is_fall_levels(Plan((0, 0), 1, [None]), rules, [], 5, {(0, 0): 0}), True)
        self.assertIs(is_fall_levels(Plan((0, 0), 1, [None]), rules, [], 5, {(0, 0): 1}), False)

    def test_falls_of_restarts_count_each(self):
        # What runs to its end leaves 7; each fall in time goes one worth up, or none.
        plan = Plan((0,), 1, [(0, (1,)), None, (0, (7,))])
        rules = [({0: (worth,)}, [(0, (worth + 1,)), None, (0, (7,))]) for worth in range(1, 5)]
        number, guard, history = fewest_falls(plan, rules, [{0: (4,)}, {0: (5,)}])
        self.assertEqual([number, guard, history], [5, 1, [[0]] * 5])
        for wanted in range(8):
            levels = fall_levels(plan, rules, [{0: (5, 6)}], wanted)
            self.assertEqual(levels is None, wanted > 5)
            if levels is not None:
                self.assertEqual(levels, {(0,): 1, (1,): 1, (2,): 2, (3,): 3, (4,): 4, (5,): 5, (7,): 0})
        self.assertEqual(fewest_falls(plan, rules, [{0: (5,)}, {0: (7,)}]), (0, 1, [[0, 1]]))
        self.assertEqual(fewest_falls(plan, rules, [{0: (0,)}])[0], 1)

    def test_the_conditions_one_by_one(self):
        for key, level, number, wanted in (
                ((0, 0), 2, 2, False), ((0, 0), 0, 1, False), ((0, 0), 0, 0, True), ((1, 0), 1, 1, False),
                ((2, 0), 2, 1, False), ((2, 0), 0, 1, True), ((0, 1), 1, 1, False), ((1, 1), 2, 1, False),
                ((1, 1), 0, 1, True), ((0, 0), True, 1, False), ((0, 0), 1, 2, False), ((0, 0), -1, 0, False),
                ((7, 7), 9, 1, True), ((7, 7), 0, 1, True), ((0, 7), 0, 1, True), ((1, 7), 5, 1, False), ((0,), 1, 1, False),
                ((0, 0, 0), 1, 1, False), ("00", 1, 1, False), (0, 0, 1, False), ((0, "0"), 0, 1, False),
                ((2, 0), None, 1, False), ((2, 0), "1", 1, False)):
            thing = {**LEVELS, key: level}
            self.assertIs(is_fall_levels(EXAMPLE, RULES, GUARDS, number, thing), wanted, (key, level))
            self.assertIs(is_level_dict(EXAMPLE, RULES, GUARDS, number, thing), wanted, (key, level))
        for key in LEVELS:
            thing = {other: LEVELS[other] for other in LEVELS if other != key}
            self.assertIs(is_fall_levels(EXAMPLE, RULES, GUARDS, 1, thing), False)

    def test_contents_that_are_not_reached_count_where_they_are_keys(self):
        # The restart of (1, 2) leaves (1, 2), (1, 1), (0, 2) and (0, 1), the last one with all its pieces.
        for more, wanted in (({(1, 2): 0}, False), ({(1, 2): 0, (0, 2): 1}, True), ({(1, 2): 0, (0, 2): 2}, False),
                             ({(1, 2): 1, (0, 2): 2}, True), ({(1, 2): 7, (0, 2): 8}, True), ({(0, 2): 9}, True),
                             ({(1, 2): 0, (0, 2): 1, (1, 1): 0}, True), ({(1, 2): 1, (0, 2): 3}, False)):
            thing = {**LEVELS, **more}
            self.assertIs(is_fall_levels(EXAMPLE, RULES, GUARDS, 1, thing), wanted, more)
            self.assertIs(is_level_dict(EXAMPLE, RULES, GUARDS, 1, thing), wanted, more)

    def test_numbers_of_any_size(self):
        big = 10 ** 40 - 1
        self.assertIsNone(fall_levels(EXAMPLE, RULES, GUARDS, big))
        self.assertIs(is_fall_levels(EXAMPLE, RULES, GUARDS, big, LEVELS), False)
        self.assertIs(is_fall_levels(EXAMPLE, RULES, [{0: (7,)}], big, {**LEVELS, (7, 0): big}), True)
        self.assertIs(is_fall_levels(EXAMPLE, RULES, [{0: (7,)}], big, {**LEVELS, (7, 0): big - 1}), False)


class AgainstAllHistories(unittest.TestCase):
    def test_small_plans(self):
        chance, seen = random.Random(86), {}
        for turn in range(400):
            if turn % 2:
                plan, rules, guards = any_case(chance, Plan)
            else:
                plan = any_plan(chance, Plan, 3)
                rules, guards = any_rules(chance, plan), any_guards(chance, len(plan.base), 3)
            harms = Ways(plan, rules).harms(guards)
            least = min(harms, default=None)
            told = fewest_falls(plan, rules, guards)
            seen[least] = seen.get(least, 0) + 1
            self.assertEqual(told is None, least is None)
            if told is not None:
                number, guard, history = told
                self.assertTrue(number == least == broken_in(plan, rules, history) and is_past(plan, rules, history))
                self.assertTrue(does_harm(plan, rules, guards, guard, history))
            for number in range(4):
                levels = fall_levels(plan, rules, guards, number)
                self.assertEqual(levels is None, least is not None and least < number)
                if levels is not None:
                    self.assertEqual(list(levels), sorted(levels))
                    self.assertTrue(is_level_dict(plan, rules, guards, number, levels))
                    self.assertIs(is_fall_levels(plan, rules, guards, number, levels), True)
        self.assertTrue(min(seen.get(key, 0) for key in (None, 0, 1, 2)) > 5, seen)

    def test_changed_papers_are_judged_as_the_conditions_say(self):
        chance, seen = random.Random(87), {True: 0, False: 0}
        for _ in range(300):
            plan, rules, guards = any_case(chance, Plan)
            levels = fall_levels(plan, rules, [], 0)
            for _ in range(12):
                thing = changed_levels(chance, levels)
                number = chance.randrange(4)
                wanted = is_level_dict(plan, rules, guards, number, thing)
                seen[wanted] += 1
                self.assertIs(is_fall_levels(plan, rules, guards, number, thing), wanted, (levels, thing))
        self.assertTrue(min(seen.values()) > 250, seen)


class Bounds(unittest.TestCase):
    def test_ninety_nine(self):
        for many in (98, 99):
            plan, rules = counted(many)
            self.assertEqual(len(fall_levels(plan, rules, [], 5)), many)
        plan, rules = counted(98)
        levels, far = fall_levels(plan, rules, [], 5), (7,) * 8
        self.assertIs(is_fall_levels(plan, rules, [], 5, {**levels, far: 3}), True)
        self.assertIs(is_fall_levels(plan, rules, [], 5, {**levels, far: 3, (6,) * 8: 3}), False)
        plan, rules = counted(100)
        for call in (lambda: fewest_falls(plan, rules, []), lambda: fall_levels(plan, rules, [], 0),
                     lambda: is_fall_levels(plan, rules, [], 0, {}), lambda: is_fall_levels(plan, rules, [], 0, None)):
            with self.assertRaises(TooMany):
                call()

    def test_eight_cells_twelve_pieces_and_many_contents(self):
        plan = Plan((0,) * 8, 1, [(cell, (worth,)) for cell in range(4) for worth in (1, 2, 0)])
        rules = [({0: (0, 1)}, [(cell, (worth,)) for cell in range(4) for worth in (0, 2, 1)]),
                 ({1: (0, 1)}, [(cell, (worth,)) for cell in range(4) for worth in (2, 0, 1)]),
                 ({2: (0, 1)}, [(cell, (worth,)) for cell in range(4) for worth in (2, 0, 1)])]
        number, guard, history = fewest_falls(plan, rules, [{4: (1,)}] * 98 + [{0: (2,), 1: (2,), 2: (2,), 3: (2,)}])
        self.assertEqual([number, guard, is_history(plan, rules, history)], [0, 98, True])
        levels = fall_levels(plan, rules, [{4: (1,)}], 9)
        self.assertEqual([len(levels), set(levels.values())], [81, {0}])
        self.assertIs(is_fall_levels(plan, rules, [{4: (1,)}], 9, levels), True)


class Rest(unittest.TestCase):
    def calls(self):
        return [(lambda plan, rules, guards, number: fewest_falls(plan, rules, guards)), fall_levels,
                (lambda plan, rules, guards, number: is_fall_levels(plan, rules, guards, number, LEVELS)),
                (lambda plan, rules, guards, number: is_fall_levels(plan, rules, guards, number, None))]

    def test_errors_in_their_order(self):
        many, more = counted(100)
        for call in self.calls():
            for rules in WRONG_RULES + ODD_THINGS:
                for guards, number in ((GUARDS, 1), (None, None)):
                    with self.assertRaises(InvalidRules, msg=repr(rules)[:60]):
                        call(EXAMPLE, rules, guards, number)
            for guards in WRONG_GUARDS + ODD_THINGS:
                for number in (1, None):
                    with self.assertRaises(InvalidGuards, msg=repr(guards)[:60]):
                        call(EXAMPLE, RULES, guards, number)
            for guards in (None, [{8: (0,)}]):
                with self.assertRaises(InvalidGuards):
                    call(many, more, guards, None)
            with self.assertRaises(TooMany):
                call(many, more, [], 1)
        for call in self.calls()[1:]:
            for number in WRONG_NUMBERS + [odd for odd in ODD_THINGS if odd != 10 ** 40 - 1]:
                with self.assertRaises(InvalidNumber, msg=repr(number)[:60]):
                    call(EXAMPLE, RULES, GUARDS, number)
                with self.assertRaises(InvalidNumber, msg=repr(number)[:60]):
                    call(many, more, [], number)

    def test_any_object_is_judged(self):
        for thing in ODD_THINGS + [None, [], {}, (), list(LEVELS), list(LEVELS.items()), [LEVELS], (LEVELS,), {0: 0},
                                   {(0, 0): LEVELS}, {**LEVELS, ((0,), 0): 1}]:
            for number in (0, 1):
                self.assertIs(is_fall_levels(EXAMPLE, RULES, [], number, thing), False, repr(thing)[:60])
        thing = {key: LEVELS[key] for key in reversed(LEVELS)}
        self.assertIs(is_fall_levels(EXAMPLE, RULES, GUARDS, 1, thing), True)
        thing = {(0, False): 1, **{key: LEVELS[key] for key in LEVELS if key != (0, 0)}}
        self.assertIs(is_fall_levels(EXAMPLE, RULES, GUARDS, 1, thing), False)

    def test_arguments_stay_and_results_are_new(self):
        rules, guards, levels = [({0: (1,)}, [(1, (1,)), (0, (0,))])], [{1: (0,), 0: (0,)}], dict(LEVELS)
        told = fewest_falls(EXAMPLE, rules, guards)
        told[2][0].clear()
        fall_levels(EXAMPLE, rules, guards, 1).clear()
        is_fall_levels(EXAMPLE, rules, guards, 1, levels)
        self.assertEqual([rules, guards, levels], [RULES, GUARDS, LEVELS])
        self.assertEqual(list(guards[0]), [1, 0])
        self.assertEqual(fewest_falls(EXAMPLE, rules, guards), (1, 0, [[0], [1]]))
        rules[0][1].insert(1, None)
        self.assertIsNone(fewest_falls(EXAMPLE, rules, guards))

    def test_by_name(self):
        self.assertEqual(fewest_falls(guards=GUARDS, rules=RULES, plan=EXAMPLE)[0], 1)
        self.assertEqual(len(fall_levels(number=1, guards=GUARDS, rules=RULES, plan=EXAMPLE)), 5)
        self.assertIs(is_fall_levels(thing=LEVELS, number=1, guards=GUARDS, rules=RULES, plan=EXAMPLE), True)


if __name__ == "__main__":
    unittest.main()
