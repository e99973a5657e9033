"""Restarts, histories, and what is reached by them ([2], [22])."""

import itertools
import random
import unittest

from afterfall.errors import InvalidContent, InvalidGuards, InvalidHistory, InvalidRules, TooMany
from afterfall.falls import is_fall
from afterfall.plans import Plan
from afterfall.restarts import (circle, closed, content_behind, is_circle, is_closed, is_history, is_rests, is_unsafe,
                                reached, restart, rests, unsafe)
from tests.oracle import (ODD_THINGS, after, all_falls, any_plan, any_rules, found_at_the_end, reached_by,
                          restart_for)
from tests.test_contents import WRONG_CONTENTS
from tests.test_finding import WRONG_PATTERNS
from tests.test_guards import WRONG_GUARDS
from tests.test_plans import WRONG_STEPS

EXAMPLE = Plan((0, 0), 1, [(0, (1,))])
RULES = [({0: (1,)}, [(1, (1,)), None, (0, (0,))])]
ROUND = [({0: (1,)}, [(1, (1,))]), ({0: (0,)}, [(0, (1,))])]
ONE_STEP = [(0, (1,))]

# For a store with two cells and the width 1.
WRONG_RULES = [None, 0, True, "", (), ({}, ONE_STEP), (({}, ONE_STEP),), {}, {0: ({}, ONE_STEP)}, [None], [0], [()], [[]],
               [({},)], [({}, ONE_STEP, 0)], [[{}, ONE_STEP]], [(ONE_STEP, {})], [({}, [])], [({}, ())], [({}, None)],
               [({}, (0, (1,)))], [({}, tuple(ONE_STEP))], [({}, {0: (0, (1,))})], [({}, 0)], [({}, "")], [({}, [None] * 41)],
               [({}, [(0, (1, 1))] * 21)], [({}, ONE_STEP)] * 9, [({}, ONE_STEP)] * 99, [({}, [(0, (1, 1, 1))])],
               [({}, ONE_STEP * 41)], [({}, [[0, (1,)]])], [({}, [(1, (1, 1))])]]
WRONG_RULES += [[(wrong, ONE_STEP)] for wrong in WRONG_PATTERNS]
WRONG_RULES += [[({}, ONE_STEP), (wrong, ONE_STEP)] for wrong in WRONG_PATTERNS]
WRONG_RULES += [[({}, [wrong])] for wrong in WRONG_STEPS if wrong is not None]
WRONG_RULES += [[({}, ONE_STEP), ({}, ONE_STEP + [wrong] + ONE_STEP)] for wrong in WRONG_STEPS if wrong is not None]


def counted(many):
    """A plan and rules with which just so many contents are reached, 97 or more."""
    steps = [(cell, (1,)) for cell in range(5)] + [(5, (1,)), (5, (2,))]
    full = {cell: (1,) for cell in range(5)} | {5: (2,), 6: (0,)}
    return Plan((0,) * 8, 1, steps), [(full, [(6, (worth,)) for worth in range(1, many - 95)])]


def changed_history(chance, history):
    """A history with a few parts changed, left out or put in twice."""
    history = [list(fall) for fall in history]
    for _ in range(chance.randint(1, 2)):
        at = chance.randrange(len(history)) if history else 0
        which = chance.random()
        if which < 0.2 or not history:
            history.insert(at, chance.sample(range(4), chance.randint(0, 3)))
        elif which < 0.4:
            history.insert(at, list(chance.choice(history)))
        elif which < 0.6:
            del history[at]
        elif which < 0.8:
            chance.shuffle(history[at])
        else:
            history[at] = chance.sample(range(4), chance.randint(0, 3))
    return history


def any_history(chance, plan, rules, most=4):
    history, runs = [], plan
    while runs is not None and len(history) < most:
        fall = chance.choice(all_falls(runs))
        history.append(fall)
        runs = restart_for(plan, rules, after(runs, fall))
        if chance.random() < 0.2:
            break
    return history


class Examples(unittest.TestCase):
    def test_those_of_the_document(self):
        self.assertEqual(reached(EXAMPLE, RULES), [(0, 0), (0, 1), (1, 0), (1, 1)])
        self.assertEqual(restart(EXAMPLE, RULES, (1, 0)).steps, [(1, (1,)), None, (0, (0,))])
        self.assertEqual(content_behind(EXAMPLE, RULES, [[0], [0], [0, 1]]), (0, 1))
        self.assertIs(is_history(EXAMPLE, RULES, [[0], [1]]), False)

    def test_a_restart_is_the_plan_with_the_content_as_its_base(self):
        plan = Plan((0, 0, 0, 0), 3, [(0, (1, 1, 1, 1))])
        rules = [({0: (1,)}, [(0, (2, 2, 2, 2)), None])]
        self.assertEqual(restart(plan, rules, (1, 2, 3, 4)), Plan((1, 2, 3, 4), 3, [(0, (2, 2, 2, 2)), None]))
        self.assertIsNone(restart(plan, rules, (0, 2, 3, 4)))

    def test_the_first_rule_that_matches(self):
        rules = [({0: (1, 2), 1: (0,)}, [(0, (3,))]), ({0: (2,)}, [(0, (4,))]), ({}, [(0, (5,))]), ({1: (1,)}, [(0, (6,))])]
        for content, worth in (((1, 0), 3), ((2, 0), 3), ((2, 1), 4), ((0, 0), 5), ((0, 1), 5), ((7, 7), 5)):
            self.assertEqual(restart(EXAMPLE, rules, content).steps, [(0, (worth,))])

    def test_no_rules(self):
        self.assertIsNone(restart(EXAMPLE, [], (1, 1)))
        self.assertEqual(reached(EXAMPLE, []), [(0, 0), (1, 0)])
        for thing, wanted in (([[]], True), ([[0]], True), ([], False), ([[], []], False), ([[0], []], False),
                              ([[1]], False), ([[0, 0]], False)):
            self.assertIs(is_history(EXAMPLE, [], thing), wanted)

    def test_a_content_at_rest_ends_a_history(self):
        for thing, content in (([[]], (0, 0)), ([[0]], (1, 0)), ([[0], []], (1, 0)), ([[0], [0]], (1, 1)),
                               ([[0], [0, 1]], (0, 1)), ([[0]] + [[]] * 200 + [[0, 1]], (0, 1)),
                               ([[0]] * 100, (1, 1)), ([[0], [0], [], [0], [0, 1]], (0, 1))):
            self.assertIs(is_history(EXAMPLE, RULES, thing), True)
            self.assertEqual(content_behind(EXAMPLE, RULES, thing), content)
        for thing in ([[], []], [[], [0]], [[0], [0, 1], []], [[0], [0, 1], [0]], [[0], [1]], [[0], [1, 0]], [[0], [0, 0]],
                      [[0], [2]], [[1]], [[0], [0], [0, 1], [0, 1]]):
            self.assertIs(is_history(EXAMPLE, RULES, thing), False)
            with self.assertRaises(InvalidHistory):
                content_behind(EXAMPLE, RULES, thing)

    def test_what_is_reached_hangs_on_all_falls(self):
        plan = Plan((0, 0, 0), 1, [(0, (1,)), None, (1, (1,))])
        rules = [({0: (1,), 1: (1,)}, [(0, (0,)), (1, (0,)), None, (2, (1,))])]
        self.assertEqual(reached(plan, rules), [(0, 0, 0), (0, 0, 1), (0, 1, 0), (1, 0, 0), (1, 1, 0)])


class AgainstAllFalls(unittest.TestCase):
    def test_restarts_and_histories(self):
        chance = random.Random(61)
        seen = {True: 0, False: 0}
        for _ in range(350):
            plan = any_plan(chance, Plan, 3)
            rules = any_rules(chance, plan)
            for _ in range(4):
                content = tuple(chance.randrange(4) for _ in plan.base)
                self.assertEqual(restart(plan, rules, content), restart_for(plan, rules, content))
            for _ in range(6):
                thing = any_history(chance, plan, rules)
                if chance.random() < 0.6:
                    thing = changed_history(chance, thing)
                content = found_at_the_end(plan, rules, thing)
                seen[content is not None] += 1
                self.assertIs(is_history(plan, rules, thing), content is not None)
                if content is None:
                    with self.assertRaises(InvalidHistory):
                        content_behind(plan, rules, thing)
                else:
                    self.assertEqual(content_behind(plan, rules, thing), content)
        self.assertTrue(min(seen.values()) > 500, seen)

    def test_reached(self):
        chance = random.Random(62)
        sizes = {}
        for _ in range(300):
            plan = any_plan(chance, Plan, 4)
            rules = any_rules(chance, plan)
            wanted = sorted(reached_by(plan, rules))
            sizes[len(wanted)] = True
            self.assertEqual(reached(plan, rules), wanted)
        self.assertTrue(len(sizes) > 10 and max(sizes) < 100, sizes)


class Bounds(unittest.TestCase):
    def test_ninety_nine_are_none_too_many(self):
        for many in (97, 98, 99):
            plan, rules = counted(many)
            self.assertEqual(len(reached(plan, rules)), many)
        for many in (100, 101, 102):
            plan, rules = counted(many)
            with self.assertRaises(TooMany):
                reached(plan, rules)

    def test_a_plan_alone_that_leaves_too_many(self):
        steps = [(cell, (worth,)) for cell in range(3) for worth in range(1, 5)]
        with self.assertRaises(TooMany):
            reached(Plan((0,) * 8, 1, steps), [])
        self.assertEqual(len(reached(Plan((0,) * 8, 1, steps[:10]), [])), 75)
        with self.assertRaises(TooMany):
            reached(Plan((0,) * 8, 1, steps[:10]), [({0: (4,), 3: (0,)}, [(3, (1,)), (4, (1,))])])
        with self.assertRaises(TooMany):
            reached(Plan((0,) * 8, 1, [(0, (1,) * 8)]), [])

    def test_eight_cells_and_twelve_pieces(self):
        # All that is reached has a restart of twelve pieces, which leads to nothing new.
        plan = Plan((0,) * 8, 1, [(cell, (1,)) for cell in range(6)] + [(cell, (0,)) for cell in range(6)])
        rules = [({0: (0,)}, [(cell, (cell % 2,)) for cell in range(6)] * 2),
                 ({0: (1,)}, [(cell, (1 - cell % 2,)) for cell in range(6)] + [None] + [(cell, (1,)) for cell in range(6)])]
        wanted = [first + (0, 0) for first in itertools.product(range(2), repeat=6)]
        self.assertEqual(reached(plan, rules), wanted)
        self.assertEqual(sorted(rests(plan, rules) or wanted), wanted)

    def test_up_to_eight_rules(self):
        rules = [({0: (worth,)}, [(1, (worth,))]) for worth in range(8)]
        self.assertEqual(restart(EXAMPLE, rules, (7, 0)).steps, [(1, (7,))])
        self.assertEqual(reached(EXAMPLE, rules), [(0, 0), (1, 0), (1, 1)])
        with self.assertRaises(InvalidRules):
            restart(EXAMPLE, rules + rules[:1], (7, 0))

    def test_steps_that_make_a_plan_of_this_width(self):
        steps = [(0, (1, 1))] * 20
        self.assertEqual(len(restart(EXAMPLE, [({}, steps)], (0, 0)).pieces), 40)
        wide = Plan((0, 0), 2, [])
        self.assertEqual(len(restart(wide, [({}, steps * 2)], (0, 0)).pieces), 40)
        with self.assertRaises(InvalidRules):
            restart(EXAMPLE, [({}, steps + [(0, (1,))])], (0, 0))
        with self.assertRaises(InvalidRules):
            restart(wide, [({}, steps * 2 + [None])], (0, 0))
        self.assertEqual(restart(wide, [({}, [None] * 40)], (0, 0)).epochs, 41)


def all_calls():
    """Each function of the file with its arguments behind the rules."""
    return [(restart, [(0, 0)]), (is_history, [[[]]]), (content_behind, [[[]]]), (reached, []), (unsafe, [[]]),
            (is_unsafe, [[], (0, [[]])]), (closed, [[]]), (is_closed, [[], []]), (rests, []), (is_rests, [{}]),
            (circle, []), (is_circle, [[]])]


class Rest(unittest.TestCase):
    def test_invalid_rules_come_first(self):
        for function, more in all_calls():
            for rules in WRONG_RULES + ODD_THINGS:
                with self.assertRaises(InvalidRules, msg=repr(rules)[:60]):
                    function(EXAMPLE, rules, *more)
            for rules in WRONG_RULES[:12]:
                with self.assertRaises(InvalidRules, msg=repr(rules)[:60]):
                    function(EXAMPLE, rules, *[None] * len(more))
                with self.assertRaises(InvalidRules, msg=repr(rules)[:60]):
                    function(counted(100)[0], rules, *[None] * len(more))

    def test_invalid_contents(self):
        for rules in (RULES, []):
            for content in WRONG_CONTENTS + ODD_THINGS + [None]:
                with self.assertRaises(InvalidContent, msg=repr(content)[:60]):
                    restart(EXAMPLE, rules, content)

    def test_invalid_histories(self):
        things = [None, 0, True, "", (), {}, [], [None], [0], [()], ([],), ([0],), {0: []}, [[True]], [[False]], [["0"]],
                  [[None]], [[0], [True]], [[0], None], [[0], (0,)], [[0], [[0]]], [[0], "0"], [[-1]], [[10 ** 39]], [[0.0]]]
        for rules in (RULES, []):
            for thing in things[:-1] + ODD_THINGS:
                wanted = found_at_the_end(EXAMPLE, rules, thing)
                self.assertIs(is_history(EXAMPLE, rules, thing), wanted is not None, repr(thing)[:60])
                if wanted is None:
                    with self.assertRaises(InvalidHistory, msg=repr(thing)[:60]):
                        content_behind(EXAMPLE, rules, thing)

    def test_a_long_history(self):
        rules = [({}, [(1, (1,)), (1, (2,))])]
        history = [[0]] + [[1, 0], [0, 1], [1], [0], []] * 900
        self.assertIs(is_history(EXAMPLE, rules, history), True)
        self.assertEqual(content_behind(EXAMPLE, rules, history), (1, 1))
        self.assertIs(is_history(EXAMPLE, rules, history + [[2]]), False)
        self.assertIs(is_history(EXAMPLE, rules, history + [history[1:]]), False)

    def test_too_many_behind_the_other_errors(self):
        plan, rules = counted(100)
        for function, more in all_calls():
            if function in (restart, is_history, content_behind, is_unsafe, is_closed):
                function(plan, rules, *([(0,) * 8] if function == restart else more))
            else:
                with self.assertRaises(TooMany):
                    function(plan, rules, *more)
        for function, more in ((unsafe, []), (closed, []), (is_unsafe, [(0, [[]])]), (is_closed, [[]])):
            for guards in ([{8: (0,)}], None, [{0: ()}]):
                with self.assertRaises(InvalidGuards):
                    function(plan, rules, guards, *more)
        for thing in ODD_THINGS + [None, {}, []]:
            with self.assertRaises(TooMany):
                is_rests(plan, rules, thing)
            with self.assertRaises(TooMany):
                is_circle(plan, rules, thing)

    def test_invalid_guards(self):
        for guards in [wrong for wrong in WRONG_GUARDS if wrong != [{2: (0,)}]] + ODD_THINGS:
            for function, more in ((unsafe, []), (closed, []), (is_unsafe, [None]), (is_closed, [None])):
                with self.assertRaises(InvalidGuards, msg=repr(guards)[:60]):
                    function(EXAMPLE, RULES, guards, *more)

    def test_arguments_stay_and_results_are_new(self):
        steps = [(1, (1,)), None, (0, (0,))]
        rules, history = [({1: (0, 1), 0: (1,)}, steps)], [[0], [0], [0, 1]]
        self.assertEqual(content_behind(EXAMPLE, rules, history), (0, 1))
        is_history(EXAMPLE, rules, history)
        restart(EXAMPLE, rules, (1, 0)).steps.clear()
        reached(EXAMPLE, rules).clear()
        self.assertEqual(len(reached(EXAMPLE, rules)), 4)
        self.assertEqual([list(rules[0][0].items()), steps, history],
                         [[(1, (0, 1)), (0, (1,))], [(1, (1,)), None, (0, (0,))], [[0], [0], [0, 1]]])
        runs = restart(EXAMPLE, rules, (1, 0))
        steps.clear()
        self.assertEqual(len(runs.steps), 3)
        with self.assertRaises(InvalidRules):
            restart(EXAMPLE, rules, (1, 0))

    def test_by_name(self):
        self.assertEqual(restart(content=(1, 0), rules=RULES, plan=EXAMPLE).base, (1, 0))
        self.assertIs(is_history(thing=[[0]], rules=RULES, plan=EXAMPLE), True)
        self.assertEqual(content_behind(history=[[0]], rules=RULES, plan=EXAMPLE), (1, 0))
        self.assertEqual(len(reached(rules=RULES, plan=EXAMPLE)), 4)
        self.assertIs(is_fall(restart(EXAMPLE, RULES, (1, 0)), [0, 1]), True)


if __name__ == "__main__":
    unittest.main()
