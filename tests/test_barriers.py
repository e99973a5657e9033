"""Gaps, prices and the cheapest barriers ([2], [7], [19])."""

import random
import unittest

from afterfall.barriers import cheapest, gaps, is_safe, shutters, with_barriers
from afterfall.errors import Always, InvalidFall, InvalidGuards, InvalidPrices, UnknownGap
from afterfall.falls import is_fall, is_found
from afterfall.guards import harm, is_harm
from afterfall.plans import Plan
from tests.oracle import (ODD_THINGS, all_falls, any_guards, any_line, any_plan, barred, gaps_of, is_shut_by, is_shut_out,
                          lists_of, shutters_by)
from tests.test_guards import WRONG_GUARDS

EXAMPLE = Plan((0, 0, 0), 1, [(0, (1,)), (1, (1,)), (2, (1,))])
GUARDS = [{0: (0,), 2: (1,)}]
MIXED = Plan((0, 0), 1, [None, (0, (1, 1)), (0, (2,)), None, None, (1, (3,)), (0, (4, 4)), (1, (5,)), None])

# For the plan EXAMPLE, whose gaps are 1 and 2.
WRONG_CHOICES = [None, 0, 1, True, "", "1", (), (1,), {}, {1: 1}, [0], [3], [-1], [1, 1], [1, 2, 1], [True], [2, True],
                 [None], ["1"], [[1]], [(1,)], [1, 2, 3], [10 ** 39], [-2, -1], [1, None]]
WRONG_PRICES = [None, 0, 1, True, "", [], [5, 3], (), {}, {1: 5}, {2: 3}, {1: 5, 2: 3, 3: 1}, {0: 1, 1: 5, 2: 3},
                {1: 5, 2: 0}, {1: 1000, 2: 3}, {1: -1, 2: 3}, {1: True, 2: 3}, {1: 5, 2: None}, {1: "5", 2: 3},
                {1: (5,), 2: 3}, {1: [5], 2: 3}, {True: 5, 2: 3}, {"1": 5, 2: 3}, {"1": 5, "2": 3}, {(1,): 5, 2: 3},
                {1: 5, 2: 3, "3": 1}, {1: 5, 2: 3, (): 1}, {1: 10 ** 39, 2: 3}, {1: {}, 2: 3}, {-1: 5, 2: 3}]


def least(plan, guards, prices):
    """The least price of a list of gaps that is safe, over all lists of gaps, or None."""
    safe = [chosen for chosen in lists_of(gaps_of(plan)) if is_shut_out(barred(plan, chosen), guards)]
    return min((sum(prices[gap] for gap in chosen) for chosen in safe), default=None)


class Examples(unittest.TestCase):
    def test_those_of_the_document(self):
        self.assertEqual([gaps(EXAMPLE), shutters(EXAMPLE, [2]), shutters(EXAMPLE, [0, 2])], [[1, 2], [1, 2], [2]])
        self.assertEqual([cheapest(EXAMPLE, GUARDS, {1: 5, 2: 3}), is_safe(EXAMPLE, GUARDS, [1])], [(3, [2]), True])

    def test_gaps_are_writes_right_behind_writes(self):
        self.assertEqual(gaps(MIXED), [2, 6, 7])
        for steps, wanted in (([], []), ([None], []), ([(0, (1,))], []), ([None, (0, (1,))], []),
                              ([(0, (1,)), None], []), ([(0, (1,)), None, (0, (1,))], []), ([(0, (1,))] * 2, [1]),
                              ([(0, (1,))] * 40, list(range(1, 40)))):
            self.assertEqual(gaps(Plan((0, 0), 1, steps)), wanted)

    def test_barriers_at_gaps(self):
        steps = MIXED.steps
        self.assertEqual(with_barriers(MIXED, []), MIXED)
        self.assertEqual(with_barriers(MIXED, [6]).steps, steps[:6] + [None] + steps[6:])
        wanted = steps[:2] + [None] + steps[2:6] + [None] + steps[6:7] + [None] + steps[7:]
        for chosen in ([2, 6, 7], [7, 6, 2], [6, 2, 7]):
            plan = with_barriers(MIXED, chosen)
            self.assertEqual([plan.steps, plan.base, plan.width], [wanted, (0, 0), 1])
        self.assertEqual(gaps(with_barriers(MIXED, [6])), [2, 8])

    def test_a_gap_shuts_a_fall(self):
        # The pieces 0 and 1 are of the step 1, 2 of the step 2; 3 of 5; 4 and 5 of 6; 6 of 7.
        for fall, wanted in (([], []), ([0], []), ([0, 1], []), ([2], [2]), ([0, 2], [2]), ([0, 2, 1], [2]),
                             ([0, 1, 2], []), ([1, 0, 2, 3], []), ([0, 1, 2, 4], [6]), ([0, 1, 2, 3, 5], []),
                             ([0, 1, 2, 6], [6, 7]), ([0, 1, 2, 3, 6], [7]), ([0, 1, 2, 3, 4, 6, 5], [7]),
                             ([2, 0, 1, 6, 5, 4, 3], [2, 6, 7]), ([0, 1, 2, 3, 4, 5, 6], []),
                             ([0, 1, 2, 5, 3, 4, 6], [6])):
            self.assertEqual(shutters(MIXED, fall), wanted, fall)

    def test_several_that_are_as_cheap(self):
        price, chosen = cheapest(EXAMPLE, GUARDS, {1: 4, 2: 4})
        self.assertEqual(price, 4)
        self.assertIn(chosen, ([1], [2]))
        self.assertEqual(cheapest(EXAMPLE, GUARDS, {1: 999, 2: 998}), (998, [2]))

    def test_several_gaps(self):
        guards = [{0: (0,), 1: (1,)}, {1: (0,), 2: (1,)}]
        self.assertEqual(cheapest(EXAMPLE, guards, {1: 5, 2: 3}), (8, [1, 2]))
        self.assertEqual(cheapest(EXAMPLE, guards[:1], {1: 5, 2: 3}), (5, [1]))
        # Two cheap ones in place of a dear one.
        plan = Plan((0,) * 4, 1, [(cell, (1,)) for cell in range(4)])
        guards = [{0: (0,), 2: (1,)}, {1: (0,), 3: (1,)}]
        self.assertEqual(cheapest(plan, guards, {1: 3, 2: 7, 3: 3}), (6, [1, 3]))
        self.assertEqual(cheapest(plan, guards, {1: 3, 2: 5, 3: 3}), (5, [2]))

    def test_none_are_needed(self):
        self.assertEqual(cheapest(EXAMPLE, [], {1: 5, 2: 3}), (0, []))
        self.assertEqual(cheapest(EXAMPLE, [{0: (2,)}], {1: 5, 2: 3}), (0, []))
        plan = Plan((0,), 1, [(0, (1,))])
        self.assertEqual([cheapest(plan, [], {}), is_safe(plan, [], [])], [(0, []), True])


class AlwaysFound(unittest.TestCase):
    def test_the_first_guard_with_barriers_in_all_gaps(self):
        # The guard 0 can be found too, but not with barriers in all gaps.
        guards = GUARDS + [{0: (2,)}, {0: (1,), 1: (0,)}, {0: (0,)}]
        with self.assertRaises(Always) as caught:
            cheapest(EXAMPLE, guards, {1: 5, 2: 3})
        self.assertEqual([caught.exception.guard, caught.exception.course], [2, [0]])
        self.assertEqual(harm(EXAMPLE, guards)[0], 0)
        with self.assertRaises(Always) as caught:
            cheapest(Plan((0,), 1, []), [{}], {})
        self.assertEqual([caught.exception.guard, caught.exception.course], [0, []])

    def test_as_small_plans_say(self):
        chance = random.Random(51)
        seen = 0
        for _ in range(300):
            plan = any_plan(chance, Plan, 4)
            guards = any_guards(chance, len(plan.base))
            full = barred(plan, gaps_of(plan))
            told = harm(full, guards)
            if told is not None:
                seen += 1
                with self.assertRaises(Always) as caught:
                    cheapest(plan, guards, {gap: 1 for gap in gaps_of(plan)})
                self.assertEqual(caught.exception.guard, told[0])
                course = caught.exception.course
                self.assertTrue(is_fall(plan, course) and is_harm(full, guards, (told[0], course)))
                self.assertEqual(shutters(plan, course), [])
        self.assertTrue(seen > 50, seen)


class AgainstAllFalls(unittest.TestCase):
    def test_gaps_and_shutters(self):
        chance = random.Random(52)
        for _ in range(120):
            plan = any_plan(chance, Plan, 4)
            self.assertEqual(gaps(plan), gaps_of(plan))
            for chosen in lists_of(gaps_of(plan)):
                self.assertEqual(with_barriers(plan, chance.sample(chosen, len(chosen))), barred(plan, chosen))
            for fall in all_falls(plan):
                self.assertEqual(shutters(plan, fall), shutters_by(plan, fall))
                for gap in gaps_of(plan):
                    self.assertIs(is_fall(barred(plan, [gap]), fall), not is_shut_by(plan, fall, gap))

    def test_cheapest_and_safe_gaps(self):
        chance = random.Random(53)
        prices_seen = {}
        for _ in range(250):
            plan, guards = any_line(chance, Plan)
            prices = {gap: chance.randint(1, 4) for gap in chance.sample(gaps_of(plan), len(gaps_of(plan)))}
            for chosen in lists_of(gaps_of(plan)):
                mixed = chance.sample(chosen, len(chosen))
                self.assertIs(is_safe(plan, guards, mixed), is_shut_out(barred(plan, chosen), guards))
            wanted = least(plan, guards, prices)
            prices_seen[wanted] = prices_seen.get(wanted, 0) + 1
            if wanted is not None:
                price, chosen = cheapest(plan, guards, prices)
                self.assertEqual([price, chosen], [wanted, sorted(chosen)])
                self.assertEqual(sum(prices[gap] for gap in chosen), price)
                self.assertIs(is_safe(plan, guards, chosen), True)
        self.assertTrue(min(prices_seen[price] for price in (None, 0, 1, 2, 3, 4)) > 5 and max(
            price or 0 for price in prices_seen) > 4, prices_seen)


def wall_of_guards(cells):
    """All guards of one cell that is 0 while the next one is 1: a barrier between each two is needed."""
    return [{cell: (0,), cell + 1: (1,)} for cell in range(cells - 1)]


class LargePlans(unittest.TestCase):
    def judge(self, plan, guards, prices):
        """Compare with all lists of gaps, each judged by `harm`."""
        safe = [chosen for chosen in lists_of(gaps(plan)) if harm(with_barriers(plan, chosen), guards) is None]
        wanted = min(sum(prices[gap] for gap in chosen) for chosen in safe)
        price, chosen = cheapest(plan, guards, prices)
        self.assertEqual([price, sum(prices[gap] for gap in chosen)], [wanted, wanted])
        self.assertIn(chosen, safe)
        return len(chosen)

    def test_all_of_eight_gaps_are_needed(self):
        plan = Plan((0,) * 9, 1, [(cell, (1,)) for cell in range(9)])
        prices = {gap: 999 - gap for gap in range(1, 9)}
        self.assertEqual(cheapest(plan, wall_of_guards(9), prices), (sum(prices.values()), list(range(1, 9))))

    def test_any_half_of_eight_gaps(self):
        # A guard for each four gaps: its fall is shut by just these.
        cells, chance = 9, random.Random(54)
        plan = Plan((0,) * cells, 1, [(cell, (1,)) for cell in range(cells)])
        guards = [{low: (0,), low + 4: (1,)} for low in range(5)]
        for _ in range(6):
            prices = {gap: chance.randint(1, 9) for gap in range(1, 9)}
            self.judge(plan, guards, prices)

    def test_thirty_two_steps_forty_pieces_and_ninety_nine_guards(self):
        chance = random.Random(55)
        sizes = {}
        for _ in range(2):
            steps = []
            for block in range(8):
                first = chance.randrange(10)
                steps.extend([(first, tuple(chance.randrange(3) for _ in range(2))), (chance.randrange(12), (block % 3,))])
                steps.extend([None, None])
            plan = Plan((0,) * 12, 1, steps)
            self.assertEqual([len(gaps(plan)), len(plan.steps)], [8, 32])
            full = with_barriers(plan, gaps(plan))
            guards = []
            while len(guards) < 99:
                guard = {cell: (chance.randrange(3),) for cell in chance.sample(range(12), chance.choice((2, 3, 4)))}
                if harm(full, [guard]) is None:
                    guards.append(guard)
            many = self.judge(plan, guards, {gap: chance.randint(1, 5) for gap in gaps(plan)})
            sizes[many] = True
        self.assertTrue(max(sizes) > 0, sizes)


class Rest(unittest.TestCase):
    def test_unknown_gaps(self):
        for chosen in WRONG_CHOICES + ODD_THINGS:
            with self.assertRaises(UnknownGap, msg=repr(chosen)[:60]):
                with_barriers(EXAMPLE, chosen)
            self.assertIs(is_safe(EXAMPLE, [], chosen), False)
            self.assertIs(is_safe(EXAMPLE, GUARDS, chosen), False)
        for chosen in ([1], [3], [4], [5], [8], [0], [2, 6, 7, 8]):
            with self.assertRaises(UnknownGap):
                with_barriers(MIXED, chosen)

    def test_invalid_falls(self):
        for fall in [None, 0, (), "", {}, [3], [-1], [0, 0], [True], [None], [[]], (0,), {0: 0}] + ODD_THINGS:
            with self.assertRaises(InvalidFall, msg=repr(fall)[:60]):
                shutters(EXAMPLE, fall)
        with self.assertRaises(InvalidFall):
            shutters(MIXED, [0, 3])

    def test_errors_in_their_order(self):
        always = [{}]
        wrong = [[{3: (0,)}] + GUARDS, [{0: ()}]] + [guards for guards in WRONG_GUARDS if guards != [{2: (0,)}]]
        for guards in wrong + ODD_THINGS:
            if isinstance(guards, list) and {2: (0,)} in guards:
                continue
            for prices in ({1: 5, 2: 3}, None, {}):
                with self.assertRaises(InvalidGuards, msg=repr(guards)[:60]):
                    cheapest(EXAMPLE, guards, prices)
                with self.assertRaises(InvalidGuards):
                    is_safe(EXAMPLE, guards, prices)
        for guards in (GUARDS, always, []):
            for prices in WRONG_PRICES + ODD_THINGS:
                with self.assertRaises(InvalidPrices, msg=repr(prices)[:60]):
                    cheapest(EXAMPLE, guards, prices)
        with self.assertRaises(Always):
            cheapest(EXAMPLE, always, {1: 5, 2: 3})

    def test_prices_of_all_sizes(self):
        for one, two in ((1, 1), (999, 999), (1, 999)):
            self.assertEqual(cheapest(EXAMPLE, GUARDS, {2: two, 1: one})[0], min(one, two))

    def test_arguments_stay_and_results_are_new(self):
        guards, prices, chosen, fall = [{2: (1,), 0: (0,)}], {2: 3, 1: 5}, [2, 1], [2, 0]
        gaps(EXAMPLE).clear()
        shutters(EXAMPLE, fall).clear()
        cheapest(EXAMPLE, guards, prices)[1].clear()
        is_safe(EXAMPLE, guards, chosen)
        with_barriers(EXAMPLE, chosen).steps.clear()
        self.assertEqual([gaps(EXAMPLE), shutters(EXAMPLE, fall), cheapest(EXAMPLE, guards, prices)],
                         [[1, 2], [1, 2], (3, [2])])
        self.assertEqual([[list(guard) for guard in guards], list(prices.items()), chosen, fall],
                         [[[2, 0]], [(2, 3), (1, 5)], [2, 1], [2, 0]])
        self.assertEqual(len(EXAMPLE.steps), 3)

    def test_the_error_has_a_course_of_its_own(self):
        courses = []
        for _ in range(2):
            with self.assertRaises(Always) as caught:
                cheapest(EXAMPLE, [{0: (1,), 1: (0,)}], {1: 5, 2: 3})
            courses.append(caught.exception.course)
        courses[0].append(9)
        self.assertEqual(courses, [[0, 9], [0]])

    def test_arguments_count_as_they_stand_at_the_call(self):
        guards, prices = [{0: (0,), 2: (1,)}], {1: 5, 2: 3}
        self.assertEqual([cheapest(EXAMPLE, guards, prices), is_safe(EXAMPLE, guards, [])], [(3, [2]), False])
        prices[2] = 6
        self.assertEqual(cheapest(EXAMPLE, guards, prices), (5, [1]))
        guards[0][0] = (2,)
        self.assertEqual([cheapest(EXAMPLE, guards, prices), is_safe(EXAMPLE, guards, [])], [(0, []), True])
        prices[2] = 0
        with self.assertRaises(InvalidPrices):
            cheapest(EXAMPLE, guards, prices)

    def test_by_name(self):
        self.assertEqual([gaps(plan=EXAMPLE), shutters(fall=[2], plan=EXAMPLE)], [[1, 2], [1, 2]])
        self.assertEqual(with_barriers(chosen=[1], plan=EXAMPLE).epochs, 2)
        self.assertEqual(cheapest(prices={1: 5, 2: 3}, guards=GUARDS, plan=EXAMPLE), (3, [2]))
        self.assertIs(is_safe(thing=[2], guards=GUARDS, plan=EXAMPLE), True)
        self.assertIs(is_found(with_barriers(EXAMPLE, [1]), [0], {1: (0,)}), True)


if __name__ == "__main__":
    unittest.main()
