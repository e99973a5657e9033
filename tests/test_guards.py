"""Guards, and falls that do harm ([2], [18])."""

import random
import unittest

from afterfall.errors import InvalidGuards
from afterfall.falls import is_fall, is_found
from afterfall.finding import find
from afterfall.guards import harm, is_harm
from afterfall.plans import Plan
from tests.oracle import NONE, ODD_THINGS, after, all_falls, any_pattern, any_plan, is_let, large_plan, such_falls
from tests.test_finding import LINE, WRONG_PATTERNS

EXAMPLE = Plan((0, 0), 1, [(0, (1,)), (1, (1,))])
PLACED = [[{0: (7,)}, {}][:at] + [wrong] + [{0: (7,)}, {}][at:] for wrong in WRONG_PATTERNS for at in range(3)]

# For a store with two cells.
WRONG_GUARDS = [None, 0, True, "", (), ({},), {}, {0: (0,)}, {0: {}}, [None], [[]], [()], [0], [{}] * 100,
                [{0: (0,)}] * 100, [{}] * 5000] + [[wrong] for wrong in WRONG_PATTERNS] + PLACED


class Examples(unittest.TestCase):
    def test_those_of_the_document(self):
        self.assertEqual(harm(EXAMPLE, [{0: (2,)}, {0: (0,), 1: (1,)}]), (1, [1]))
        self.assertIs(is_harm(EXAMPLE, [{0: (1,)}], (0, [1, 0])), True)
        self.assertIsNone(harm(EXAMPLE, [{0: (2,)}]))

    def test_no_guards(self):
        self.assertIsNone(harm(EXAMPLE, []))
        self.assertIs(is_harm(EXAMPLE, [], (0, [])), False)

    def test_an_empty_pattern_is_found_after_any_fall(self):
        guard, fall = harm(EXAMPLE, [{0: (2,)}, {}, {0: (0,)}])
        self.assertEqual([guard, is_fall(EXAMPLE, fall)], [1, True])
        for fall in all_falls(EXAMPLE):
            self.assertIs(is_harm(EXAMPLE, [{0: (2,)}, {}], (1, fall)), True)
            self.assertIs(is_harm(EXAMPLE, [{0: (2,)}, {}], (0, fall)), False)

    def test_the_first_guard_but_any_guard_in_a_judged_tuple(self):
        guards = [{0: (1,)}, {1: (1,)}, {0: (1,)}]
        self.assertEqual(harm(EXAMPLE, guards)[0], 0)
        for guard, fall, wanted in ((0, [0], True), (2, [0], True), (1, [0], False), (1, [1], True), (2, [1], False),
                                    (0, [1, 0], True), (1, [0, 1], True), (2, [], False), (3, [0], False),
                                    (-1, [0], False), (0, [2], False), (0, [0, 0], False)):
            self.assertIs(is_harm(EXAMPLE, guards, (guard, fall)), wanted, (guard, fall))

    def test_ninety_nine_guards(self):
        guards = [{0: (2,)}] * 98 + [{0: (1,), 1: (0,)}]
        self.assertEqual(harm(EXAMPLE, guards), (98, [0]))
        self.assertIs(is_harm(EXAMPLE, guards, (98, [0])), True)
        for more in ([{0: (2,)}], [{}], [None]):
            with self.assertRaises(InvalidGuards):
                harm(EXAMPLE, guards + more)
            with self.assertRaises(InvalidGuards):
                is_harm(EXAMPLE, guards + more, (98, [0]))


class AgainstAllFalls(unittest.TestCase):
    def test_small_plans(self):
        chance = random.Random(49)
        seen = {True: 0, False: 0}
        for _ in range(500):
            plan = any_plan(chance, Plan)
            cells = len(plan.base)
            guards = [any_pattern(chance, cells) or {0: (5,)} for _ in range(chance.randint(0, 5))]
            found = [index for index, guard in enumerate(guards) if such_falls(plan, guard, NONE)]
            told = harm(plan, guards)
            seen[told is None] += 1
            self.assertEqual(None if told is None else told[0], found[0] if found else None)
            falls = all_falls(plan)
            if told is not None:
                self.assertIn(told[1], falls)
                self.assertTrue(is_let(guards[told[0]], after(plan, told[1])))
                self.assertIs(is_harm(plan, guards, told), True)
            for _ in range(6):
                fall = chance.choice(falls)
                if chance.random() < 0.4:
                    fall = chance.sample(range(6), chance.randint(0, 4))
                guard = chance.randint(-1, len(guards))
                wanted = 0 <= guard < len(guards) and fall in falls and is_let(guards[guard], after(plan, fall))
                self.assertIs(is_harm(plan, guards, (guard, fall)), wanted)
        self.assertTrue(min(seen.values()) > 80, seen)

    def test_plans_of_forty_steps(self):
        chance = random.Random(50)
        seen = {}
        for _ in range(60):
            cells = chance.randint(2, 24)
            plan = large_plan(chance, Plan, cells, chance.choice((0, 0.1, 0.4)))
            guards = [{cell: (chance.randrange(3),) for cell in range(cells) if chance.random() < 0.6} for _ in range(8)]
            found = [index for index, guard in enumerate(guards) if find(plan, guard, NONE) is not None]
            told = harm(plan, guards)
            seen[found[0] if found else None] = True
            self.assertEqual(None if told is None else told[0], found[0] if found else None)
            if told is not None:
                self.assertIs(is_found(plan, told[1], guards[told[0]]), True)
                self.assertIs(is_harm(plan, guards, told), True)
                self.assertIs(is_harm(plan, guards, (told[0], told[1] + [40])), False)
        self.assertTrue(None in seen and 0 in seen and len(seen) > 3, seen)

    def test_forty_pieces(self):
        one = Plan((0,) * 20, 1, [(0, (1,) * 20), (0, (2,) * 20)])
        many = Plan((0, 0), 1, [None if step % 2 else (0, (step // 2 % 7 + 1,) * 2) for step in range(40)])
        self.assertEqual(harm(one, [{0: (3,)}, {19: (1,), 0: (2,)}])[0], 1)
        self.assertEqual(harm(many, [{0: (2,), 1: (4,)}] * 98 + [{0: (2,), 1: (3,)}])[0], 98)
        self.assertIsNone(harm(many, [{0: (2,), 1: (4,)}] * 99))
        self.assertIs(is_harm(many, [{0: (2,), 1: (3,)}], (0, [1, 0, 2, 3, 5])), True)
        self.assertIs(is_harm(many, [{0: (2,), 1: (3,)}], (0, [1, 0, 2, 5])), False)


class Rest(unittest.TestCase):
    def test_errors(self):
        for guards in WRONG_GUARDS + ODD_THINGS:
            with self.assertRaises(InvalidGuards, msg=repr(guards)[:60]):
                harm(LINE, guards)
            for thing in ((0, []), None, guards):
                with self.assertRaises(InvalidGuards, msg=repr(guards)[:60]):
                    is_harm(LINE, guards, thing)

    def test_a_pattern_for_other_cells(self):
        guards = [{}, {3: (0,)}]
        self.assertEqual(harm(Plan((1,) * 4, 1, []), guards), (0, []))
        for cells in (1, 2, 3):
            with self.assertRaises(InvalidGuards):
                harm(Plan((1,) * cells, 1, []), guards)

    def test_any_object_is_judged(self):
        guards = [{0: (0,)}, {0: (0,)}]
        for right in ((0, []), (1, []), (0, [1])):
            self.assertIs(is_harm(EXAMPLE, guards, right), True)
        for thing in ODD_THINGS + [None, (), {}, [0, []], [1, []], (0,), (0, [], 0), (0, ()), (0, None), (0, 0), (0, "")]:
            self.assertIs(is_harm(EXAMPLE, guards, thing), False)
            self.assertIs(is_harm(EXAMPLE, guards, (1, thing)), False)
            self.assertIs(is_harm(EXAMPLE, guards, (0, [thing])), False)
            self.assertIs(is_harm(EXAMPLE, guards, (thing, [])), False)
        for thing in ((True, []), (False, []), (1, [True]), (0, [False]), (0, [0, True]), (0, (0,)), (10 ** 39, []),
                      ("0", []), ((0,), [])):
            self.assertIs(is_harm(EXAMPLE, guards, thing), False)

    def test_arguments_stay_and_results_are_new(self):
        guards = [{1: (2,), 0: (3,)}, {1: (1,), 0: (0,)}]
        told = harm(EXAMPLE, guards)
        told[1].append(0)
        self.assertEqual(harm(EXAMPLE, guards), (1, [1]))
        thing = (1, [1])
        is_harm(EXAMPLE, guards, thing)
        self.assertEqual([[list(guard) for guard in guards], thing], [[[1, 0], [1, 0]], (1, [1])])

    def test_guards_count_as_they_stand_at_the_call(self):
        guards = [{0: (2,)}]
        self.assertEqual([harm(EXAMPLE, guards), is_harm(EXAMPLE, guards, (0, [0]))], [None, False])
        guards[0][0] = (1, 2)
        self.assertEqual([harm(EXAMPLE, guards)[0], is_harm(EXAMPLE, guards, (0, [0]))], [0, True])
        guards[0][1] = (1,)
        self.assertEqual([sorted(harm(EXAMPLE, guards)[1]), is_harm(EXAMPLE, guards, (0, [0]))], [[0, 1], False])
        guards.insert(0, {1: (1,)})
        self.assertEqual([harm(EXAMPLE, guards)[0], is_harm(EXAMPLE, guards, (0, [1]))], [0, True])
        guards[1][0] = ()
        with self.assertRaises(InvalidGuards):
            harm(EXAMPLE, guards)

    def test_by_name(self):
        self.assertEqual(harm(guards=[{0: (1,), 1: (0,)}], plan=EXAMPLE), (0, [0]))
        self.assertIs(is_harm(thing=(0, [0]), guards=[{}], plan=EXAMPLE), True)


if __name__ == "__main__":
    unittest.main()
