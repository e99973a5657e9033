"""The facts of [7], and the general rules ([2]) that go through several files."""

import random
import unittest

from afterfall.claims import fits, must_ahead
from afterfall.falls import content_after, epoch_in, is_fall, is_found
from afterfall.finding import find, is_shut, shut
from afterfall.plans import Plan
from tests.oracle import NONE, all_falls, any_claims, any_pattern, any_plan, worth_in


def in_epoch(plan, fall, epoch):
    """Whether a fall has all pieces of the epochs below this one, and none of those above it."""
    numbers = range(len(plan.pieces))
    return (all(piece in fall for piece in numbers if plan.epoch_of(piece) < epoch)
            and all(plan.epoch_of(piece) <= epoch for piece in fall))


class Facts(unittest.TestCase):
    def test_a_fall_or_a_paper_and_never_both(self):
        chance = random.Random(26)
        for _ in range(400):
            plan = any_plan(chance, Plan, 40)
            pattern, claims = any_pattern(chance, len(plan.base)), any_claims(chance, plan)
            fall, paper = find(plan, pattern, claims), shut(plan, pattern, claims)
            if fall is None:
                self.assertIs(is_shut(plan, pattern, claims, paper), True)
            else:
                self.assertIsNone(paper)
                self.assertTrue(fits(plan, claims, fall) and is_found(plan, fall, pattern))

    def test_a_piece_that_spoils_nothing_can_come_last(self):
        chance = random.Random(27)
        tried = 0
        for _ in range(400):
            plan = any_plan(chance, Plan, 4)
            pattern, claims = any_pattern(chance, len(plan.base)), any_claims(chance, plan)
            such = [fall for fall in all_falls(plan) if fits(plan, claims, fall) and is_found(plan, fall, pattern)]
            numbers = range(len(plan.pieces))
            for piece in numbers:
                epoch = plan.epoch_of(piece)
                worths = {cell: worth_in(plan, piece, cell) for cell in pattern}
                if (piece in claims[1] or any(worth not in pattern[cell] for cell, worth in worths.items() if worth is not None)
                        or any(plan.epoch_of(o) == epoch and must_ahead(plan, claims, piece, o) for o in numbers)):
                    continue
                inside = [fall for fall in such if in_epoch(plan, fall, epoch)]
                if inside:
                    tried += 1
                    self.assertTrue(any(fall and fall[-1] == piece for fall in inside))
        self.assertTrue(tried > 200)

    def test_more_barriers_never_make_a_fall_possible(self):
        chance = random.Random(28)
        for _ in range(150):
            plan = any_plan(chance, Plan, 4)
            pattern = any_pattern(chance, len(plan.base))
            for index in range(len(plan.steps) + 1):
                more = plan.with_step(index, None)
                for fall in all_falls(more):
                    self.assertIs(is_fall(plan, fall), True)
                    self.assertEqual(content_after(plan, fall), content_after(more, fall))
                if find(plan, pattern, NONE) is None:
                    self.assertIsNone(find(more, pattern, NONE))

    def test_a_fall_is_in_its_least_epoch(self):
        chance = random.Random(29)
        for _ in range(60):
            plan = any_plan(chance, Plan, 4)
            for fall in all_falls(plan):
                self.assertEqual(epoch_in(plan, fall), min(e for e in range(plan.epochs) if in_epoch(plan, fall, e)))

    def test_what_is_found_behind_all_pieces_hangs_on_their_order(self):
        plan = Plan((0,), 1, [(0, (1,)), (0, (2,))])
        self.assertEqual([content_after(plan, [0, 1]), content_after(plan, [1, 0])], [(2,), (1,)])


if __name__ == "__main__":
    unittest.main()
