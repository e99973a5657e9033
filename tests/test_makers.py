"""Makers of plans, guards and rules ([2], [21])."""

import itertools
import random
import unittest

from afterfall.errors import InvalidBarriers, InvalidWorths
from afterfall.guards import harm
from afterfall.makers import log_rules, logged, straight, switched
from afterfall.plans import Plan
from afterfall.restarts import reached, unsafe
from tests.oracle import ODD_THINGS, inner_lists

SEVEN = ((0, 1, 2, 3, 4, 5, 6), (7, 6, 5, 4, 3, 2, 1))
WRONG_WORTHS = [
    ((), ()), ((0,), ()), ((), (0,)), ((0,), (0, 1)), ((0, 1), (0,)), ((0,) * 8, (1,) * 8), ((0,) * 7, (1,) * 8),
    ([0], [1]), ([0], (1,)), ((0,), [1]), ((8,), (0,)), ((0,), (8,)), ((-1,), (0,)), ((0,), (-1,)), ((True,), (0,)),
    ((0,), (True,)), ((0,), (False,)), ((None,), (0,)), ((0,), ("1",)), (None, None), (0, 0), ("", ""), ("0", "1"),
    ({0: 0}, {0: 1}), ((0,), None), (None, (0,)), (((0,),), ((1,),)), ((10 ** 39,), (0,)), ((0,) * 30, (1,) * 30)]
WRONG_BARRIERS = [None, 0, 1, "", [], [True], [True, True, True], (), (True, True), (0,), (1,), (0, 1, 0), (None,),
                  (None,) * 3, ("True",), (True, True, 1), (0, True, True), (True,) * 4, {}, {0: True}, ((True,),)]


class Straight(unittest.TestCase):
    def test_the_example(self):
        self.assertEqual(straight((0, 0), (1, 2))[1], [{0: (0,), 1: (2,)}, {0: (1,), 1: (0,)}])

    def test_the_plan(self):
        self.assertEqual(straight((3, 4, 5), (3, 0, 1)),
                         (Plan((3, 4, 5), 1, [(0, (3, 0, 1))]), [{1: (4,), 2: (1,)}, {1: (0,), 2: (5,)}]))
        self.assertEqual(straight((3,), (4,)), (Plan((3,), 1, [(0, (4,))]), []))

    def test_guards_in_the_order_of_the_pairs(self):
        wanted = [{0: (0,), 1: (4,)}, {0: (0,), 2: (5,)}, {0: (3,), 1: (1,)}, {1: (1,), 2: (5,)}, {0: (3,), 2: (2,)},
                  {1: (4,), 2: (2,)}]
        self.assertEqual(straight((0, 1, 2), (3, 4, 5))[1], wanted)
        self.assertEqual(straight((0, 1, 2), (3, 1, 5))[1], [{0: (0,), 2: (5,)}, {0: (3,), 2: (2,)}])
        self.assertEqual([straight((0, 1), (0, 1))[1], straight((0, 1), (5, 1))[1]], [[], []])
        self.assertEqual(len(straight(*SEVEN)[1]), 42)

    def test_the_old_and_the_new_worths_are_mixed(self):
        self.assertIsNotNone(harm(*straight((0, 0), (1, 2))))
        self.assertIsNone(harm(*straight((0, 0), (1, 0))))


class Switched(unittest.TestCase):
    def test_the_example(self):
        self.assertEqual(switched((1,), (2,), (True,))[0].steps, [(1, (2,)), None, (2, (1,))])
        self.assertEqual(switched((1,), (2,), (True,))[1], [{1: (0, 1, 3, 4, 5, 6, 7), 2: (1,)}])

    def test_the_plan_and_the_guards(self):
        for barrier in (True, False):
            plan, guards = switched((1, 2), (3, 0), (barrier,))
            steps = [(2, (3, 0)), None, (4, (1,))] if barrier else [(2, (3, 0)), (4, (1,))]
            self.assertEqual([plan.base, plan.width, plan.steps], [(1, 2, 0, 0, 0), 1, steps])
            self.assertEqual(guards, [{2: (0, 1, 2, 4, 5, 6, 7), 4: (1,)}, {3: (1, 2, 3, 4, 5, 6, 7), 4: (1,)}])

    def test_the_guards_hang_on_the_new_worths_alone(self):
        self.assertEqual(switched((5,), (5,), (True,))[1], [{1: (0, 1, 2, 3, 4, 6, 7), 2: (1,)}])
        plan, guards = switched(*SEVEN, (True,))
        self.assertEqual([len(plan.base), len(plan.pieces), len(guards)], [15, 8, 7])

    def test_the_barrier_is_needed(self):
        self.assertIsNone(harm(*switched((1, 2), (3, 4), (True,))))
        self.assertEqual(harm(*switched((1, 2), (3, 4), (False,)))[0], 0)
        # The copies hold 0 at first.
        self.assertIsNone(harm(*switched((1, 2), (0, 0), (False,))))


class Logged(unittest.TestCase):
    def test_the_example(self):
        self.assertIsNone(harm(*logged((0, 0), (1, 1), (True, True, True))))

    def test_the_plan(self):
        writes = [(0, (3, 4)), (2, (1,)), (3, (3, 4)), (2, (0,))]
        for barriers in itertools.product((True, False), repeat=3):
            plan, _ = logged((1, 2), (3, 4), barriers)
            steps = [writes[0]]
            for barrier, write in zip(barriers, writes[1:]):
                steps.extend([None, write] if barrier else [write])
            self.assertEqual([plan.base, plan.width, plan.steps], [(0, 0, 0, 1, 2), 1, steps])

    def test_the_guards(self):
        _, guards = logged((1, 2), (3, 4), (True, False, True))
        self.assertEqual(guards, [{0: (0, 1, 2, 4, 5, 6, 7), 2: (1,)}, {1: (0, 1, 2, 3, 5, 6, 7), 2: (1,)},
                                  {2: (0,), 3: (1,), 4: (4,)}, {2: (0,), 3: (3,), 4: (2,)}])
        _, guards = logged((0, 1, 2), (3, 1, 5), (True, True, True))
        self.assertEqual(guards, [{0: (0, 1, 2, 4, 5, 6, 7), 3: (1,)}, {1: (0, 2, 3, 4, 5, 6, 7), 3: (1,)},
                                  {2: (0, 1, 2, 3, 4, 6, 7), 3: (1,)}, {3: (0,), 4: (0,), 6: (5,)},
                                  {3: (0,), 4: (3,), 6: (2,)}])
        self.assertEqual(logged((1,), (1,), (True,) * 3)[1], [{0: (0, 2, 3, 4, 5, 6, 7), 1: (1,)}])

    def test_the_first_pair_has_the_old_worth_at_the_first_cell(self):
        _, guards = logged((0, 1, 2), (3, 4, 5), (False,) * 3)
        self.assertEqual(guards[3:], [{3: (0,), 4: (0,), 5: (4,)}, {3: (0,), 4: (0,), 6: (5,)}, {3: (0,), 4: (3,), 5: (1,)},
                                      {3: (0,), 5: (1,), 6: (5,)}, {3: (0,), 4: (3,), 6: (2,)}, {3: (0,), 5: (4,), 6: (2,)}])

    def test_seven_worths(self):
        plan, guards = logged(*SEVEN, (True,) * 3)
        self.assertEqual([len(plan.base), len(plan.pieces), len(guards)], [15, 16, 49])
        self.assertIsNone(harm(plan, guards))

    def test_each_barrier_is_needed(self):
        for barriers in itertools.product((True, False), repeat=3):
            self.assertEqual(harm(*logged((0, 0), (1, 2), barriers)) is None, barriers == (True, True, True), barriers)


class LogRules(unittest.TestCase):
    def test_the_rules(self):
        self.assertEqual(log_rules((1, 2), (3, 4), True), [({2: (1,)}, [(3, (3, 4)), None, (2, (0,))])])
        self.assertEqual(log_rules((1, 2), (3, 4), False), [({2: (1,)}, [(3, (3, 4)), (2, (0,))])])
        self.assertEqual(log_rules((1,), (1,), True), [({1: (1,)}, [(2, (1,)), None, (1, (0,))])])
        self.assertEqual(log_rules(*SEVEN, True)[0][0], {7: (1,)})

    def test_a_log_with_its_rules(self):
        for barriers in itertools.product((True, False), repeat=3):
            for barrier in (True, False):
                plan, guards = logged((0, 0), (1, 1), barriers)
                told = unsafe(plan, log_rules((0, 0), (1, 1), barrier), guards)
                # The rule writes the new worths whatever the log holds, so the first barrier is not needed.
                self.assertEqual(told is None, barriers[1:] == (True, True) and barrier, (barriers, barrier))
        plan, _ = logged((0, 0), (1, 1), (True, True, True))
        self.assertEqual(len(reached(plan, log_rules((0, 0), (1, 1), True))), 9)


class Rest(unittest.TestCase):
    def calls(self):
        return ((straight, []), (switched, [(True,)]), (logged, [(True, False, True)]), (log_rules, [True]))

    def test_worths(self):
        for maker, more in self.calls():
            for rest in ([more, [None] * len(more), [0] * len(more)]):
                for olds, news in WRONG_WORTHS + [(odd, odd) for odd in ODD_THINGS]:
                    with self.assertRaises(InvalidWorths, msg=repr((olds, news))[:60]):
                        maker(olds, news, *rest)
                for odd in ODD_THINGS:
                    with self.assertRaises(InvalidWorths):
                        maker((0,), odd, *rest)
                    with self.assertRaises(InvalidWorths):
                        maker(odd, (0,), *rest)

    def test_barriers(self):
        for barriers in WRONG_BARRIERS + ODD_THINGS:
            if barriers != (True,):
                with self.assertRaises(InvalidBarriers, msg=repr(barriers)[:60]):
                    switched((0,), (1,), barriers)
            with self.assertRaises(InvalidBarriers, msg=repr(barriers)[:60]):
                logged((0,), (1,), barriers)
            if not isinstance(barriers, bool):
                with self.assertRaises(InvalidBarriers, msg=repr(barriers)[:60]):
                    log_rules((0,), (1,), barriers)
        for maker, wrong in ((switched, (True,) * 3), (logged, (True,)), (switched, True), (logged, True),
                             (log_rules, (True,))):
            with self.assertRaises(InvalidBarriers):
                maker((0,), (1,), wrong)

    def test_one_to_seven_worths(self):
        chance = random.Random(59)
        for many in range(1, 8):
            olds, news = (tuple(chance.randrange(8) for _ in range(many)) for _ in range(2))
            for maker, more in self.calls():
                result = maker(olds, news, *more)
                plan = logged(olds, news, (True,) * 3)[0] if maker == log_rules else result[0]
                self.assertEqual(len(plan.base), many if maker == straight else 2 * many + 1)
                for told in inner_lists(result):
                    if isinstance(told, dict):
                        self.assertEqual(list(told), sorted(told))

    def test_results_are_new(self):
        for maker, more in self.calls():
            one, two = maker((0, 1, 2), (3, 4, 5), *more), maker((0, 1, 2), (3, 4, 5), *more)
            held = [id(part) for part in inner_lists([one[0] if maker == log_rules else one[1], two])]
            self.assertEqual(len(set(held)), len(held))
            for told in inner_lists(one):
                told.clear()
            self.assertEqual(maker((0, 1, 2), (3, 4, 5), *more), two)

    def test_by_name(self):
        self.assertEqual(straight(news=(1,), olds=(0,)), straight((0,), (1,)))
        self.assertEqual(switched(barriers=(True,), news=(1,), olds=(0,)), switched((0,), (1,), (True,)))
        self.assertEqual(logged(barriers=(True,) * 3, news=(1,), olds=(0,)), logged((0,), (1,), (True,) * 3))
        self.assertEqual(log_rules(barrier=True, news=(1,), olds=(0,)), log_rules((0,), (1,), True))


if __name__ == "__main__":
    unittest.main()
