"""Plans that can leave the same contents ([2], [17])."""

import random
import unittest

from afterfall.errors import Mismatch
from afterfall.finding import find
from afterfall.plans import Plan
from afterfall.same import leave_the_same, left_by, only
from tests.oracle import NONE, after, all_falls, any_plan, contents_of


class Examples(unittest.TestCase):
    def test_those_of_the_document(self):
        one, two = Plan((0, 0), 1, [(0, (1, 1))]), Plan((0, 0), 1, [(0, (1,)), None, (1, (1,))])
        self.assertEqual([only(one, two), only(two, one)], [(0, 1), None])
        self.assertIs(leave_the_same(one, one.with_step(1, None)), True)
        self.assertIs(leave_the_same(one, two), False)
        self.assertIs(leave_the_same(two, one), False)

    def test_equal_plans(self):
        one = Plan((1, 2), 2, [(0, (3, 4)), None, (1, (5,))])
        two = Plan((1, 2), 2, [(0, (3, 4)), None, (1, (5,))])
        self.assertEqual([only(one, two), only(one, one)], [None, None])
        self.assertEqual([leave_the_same(one, two), leave_the_same(one, one)], [True, True])

    def test_both_directions(self):
        one, two = Plan((0,), 1, [(0, (1,)), (0, (2,))]), Plan((0,), 1, [(0, (2,)), (0, (3,))])
        self.assertEqual([only(one, two), only(two, one)], [(1,), (3,)])
        self.assertEqual([leave_the_same(one, two), leave_the_same(two, one)], [False, False])
        some = Plan((0,), 1, [(0, (2,))])
        self.assertEqual([only(one, some), only(some, one)], [(1,), None])
        self.assertEqual([leave_the_same(one, some), leave_the_same(some, one)], [False, False])

    def test_unlike_plans(self):
        wide, narrow = Plan((0, 0), 2, [(0, (1, 1))]), Plan((0, 0), 1, [(0, (1, 1))])
        self.assertEqual([only(wide, narrow), only(narrow, wide)], [None, (0, 1)])
        self.assertIs(leave_the_same(Plan((0, 0), 1, [(0, (1,))]), Plan((0, 0), 24, [(0, (1,))] * 5)), True)
        self.assertIs(leave_the_same(Plan((0, 0), 1, [(0, (1, 0))]), Plan((1, 0), 3, [None, (0, (0, 0)), None])), True)
        self.assertIs(leave_the_same(Plan((0,), 1, []), Plan((1,), 1, [])), False)
        self.assertEqual(only(Plan((0,), 1, []), Plan((1,), 1, [])), (0,))
        self.assertIs(leave_the_same(Plan((0,), 1, []), Plan((0,), 1, [(0, (0,))])), True)

    def test_the_order_within_an_epoch_counts_only_where_pieces_overlap(self):
        one = Plan((0, 0), 2, [(0, (1, 1)), (0, (2, 2))])
        self.assertIs(leave_the_same(one, Plan((0, 0), 2, [(0, (2, 2)), (0, (1, 1))])), True)
        two = Plan((0, 0), 2, [(0, (1, 1)), None, (0, (2, 2))])
        self.assertIs(leave_the_same(one, two), True)
        self.assertEqual(only(one.with_step(2, (0, (3,))), two.with_step(3, (0, (3,)))), (3, 0))


class AgainstAllFalls(unittest.TestCase):
    def test_small_plans(self):
        chance = random.Random(46)
        seen = {True: 0, False: 0}
        while min(seen.values()) < 60:
            one = any_plan(chance, Plan, 4)
            cells = len(one.base)
            two = any_plan(chance, Plan, 4)
            if chance.random() < 0.6:
                # A plan that is much alike.
                two = Plan(one.base, chance.randint(1, 3), one.steps)
                if two.steps and chance.random() < 0.5:
                    two = two.without_step(chance.randrange(len(two.steps)))
                if len(two.pieces) > 5:
                    continue
            if len(two.base) != cells:
                continue
            mine, others = contents_of(one), contents_of(two)
            for here, there, first, second in ((mine, others, one, two), (others, mine, two, one)):
                wanted = min((content for content in here if content not in there), default=None)
                self.assertEqual(only(first, second), wanted)
            seen[mine == others] += 1
            self.assertIs(leave_the_same(one, two), mine == others)
            self.assertIs(leave_the_same(two, one), mine == others)

    def test_what_plans_leave(self):
        chance = random.Random(47)
        for _ in range(200):
            plan = any_plan(chance, Plan)
            found, whole = left_by(plan)
            self.assertEqual(sorted(found), contents_of(plan))
            many = len(plan.pieces)
            self.assertEqual(sorted(whole), sorted({after(plan, fall) for fall in all_falls(plan) if len(fall) == many}))
            for most in (1, 2, 5):
                some, all_of_them = left_by(plan, most)
                self.assertEqual(len(some) > most, len(found) > most)
                self.assertTrue(all(content in found for content in some))
                if len(found) <= most:
                    self.assertEqual([some, all_of_them], [found, whole])


class LargestPlans(unittest.TestCase):
    """Eight cells and twelve pieces: what is found is compared with `find`, content by content."""

    def test_many_contents(self):
        steps = [(1, (1, 4, 1)), (0, (1, 5, 7)), (1, (6,)), (4, (4,)), (4, (1, 2, 6)), (5, (6,)), (0, (3, 4)),
                 (2, (6, 7, 3)), (3, (2, 6, 4)), (6, (7, 1)), (3, (5, 2, 7, 4)), (7, (5,))]
        one = Plan((0,) * 8, 24, steps)
        two = Plan((0,) * 8, 24, steps[:10] + [None] + steps[10:])
        self.assertEqual([len(one.pieces), len(left_by(one)[0])], [12, 4794])
        self.compare(one, two)
        self.assertIsNone(only(two, one))
        self.assertIsNone(only(one, Plan((0,) * 8, 24, list(reversed(steps)))))
        self.assertIs(leave_the_same(one, Plan((0,) * 8, 24, list(reversed(steps)))), True)

    def test_by_chance(self):
        chance = random.Random(48)
        for _ in range(25):
            steps = []
            for _ in range(12):
                first = chance.randrange(8)
                steps.append((first, tuple(chance.randrange(8) for _ in range(chance.randint(1, min(4, 8 - first))))))
            one = Plan((0,) * 8, 24, steps)
            two = one.with_step(chance.randint(1, 11), None)
            if chance.random() < 0.5:
                two = one.without_step(chance.randrange(12)).with_step(chance.randrange(12), chance.choice(steps))
            self.compare(one, two)
            self.compare(two, one)

    def compare(self, one, two):
        content = only(one, two)
        if content is not None:
            exact = {cell: (worth,) for cell, worth in enumerate(content)}
            self.assertIsNotNone(find(one, exact, NONE))
            self.assertIsNone(find(two, exact, NONE))
        self.assertIs(leave_the_same(one, two), content is None and only(two, one) is None)
        # All that is less can be found after both or not after the first one.
        for other in sorted(left_by(one)[0])[:200]:
            if content is None or other < content:
                self.assertIsNotNone(find(two, {cell: (worth,) for cell, worth in enumerate(other)}, NONE))


class Rest(unittest.TestCase):
    def test_mismatch_exactly_if_the_numbers_of_cells_are_unlike(self):
        plans = [Plan((1,) * cells, width, [(0, (2,) * cells)]) for cells in (1, 2, 3, 8) for width in (1, 24)]
        for one in plans:
            for two in plans:
                if len(one.base) == len(two.base):
                    self.assertIn(only(one, two), (None, (1,) * (len(one.base) - 1) + (2,)))
                    self.assertIs(leave_the_same(one, one), True)
                else:
                    with self.assertRaises(Mismatch):
                        only(one, two)
                    with self.assertRaises(Mismatch):
                        leave_the_same(one, two)

    def test_by_name(self):
        one, two = Plan((0,), 1, [(0, (1,))]), Plan((0,), 1, [])
        self.assertEqual([only(other=two, plan=one), only(other=one, plan=two)], [(1,), None])
        self.assertIs(leave_the_same(other=two, plan=one), False)


if __name__ == "__main__":
    unittest.main()
