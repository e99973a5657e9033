"""Falls ([2], [5], [11])."""

import random
import unittest
from itertools import permutations

from afterfall.errors import InvalidFall, InvalidPattern
from afterfall.falls import content_after, epoch_in, is_fall, is_found, ready_behind
from afterfall.plans import Plan, piece_epochs
from tests.oracle import ODD_THINGS, after, all_falls, any_pattern, any_plan, epochs_of, is_let

PLAN = Plan((0, 0, 0, 0), 2, [(1, (1, 1)), None, (2, (2,))])
FORTY = Plan((0,) * 24, 1, [(0, (1,) * 20), (4, (2,) * 20)])
FORTY_EPOCHS = Plan((0,) * 24, 24, [(0, (1,) * 24), None] * 20)


class IsFall(unittest.TestCase):
    def test_just_the_falls_are_falls(self):
        chance = random.Random(11)
        for _ in range(60):
            plan = any_plan(chance, Plan)
            falls = all_falls(plan)
            numbers = range(-1, len(plan.pieces) + 1)
            for many in range(len(plan.pieces) + 2):
                for fall in permutations(numbers, many) if many < 4 else falls:
                    self.assertIs(is_fall(plan, list(fall)), list(fall) in falls, (plan.steps, fall))

    def test_all_pieces_of_lower_epochs_stand_ahead(self):
        plan = Plan((0, 0), 1, [(0, (1, 1)), None, (0, (2, 2)), None, None, (1, (3,))])
        for fall in ([], [0], [1], [1, 0], [0, 1, 3], [1, 0, 3, 2], [0, 1, 2, 3, 4]):
            self.assertIs(is_fall(plan, fall), True, fall)
        for fall in ([2], [0, 2], [1, 3], [0, 2, 1], [2, 0, 1], [0, 1, 4], [0, 1, 2, 4], [0, 1, 2, 4, 3], [4]):
            self.assertIs(is_fall(plan, fall), False, fall)

    def test_pieces_are_different_and_there(self):
        for fall in ([0, 0], [0, 1, 0], [0, 1, 1], [1, 0, 2, 2], [3], [-1], [0, 1, 3], [0, -2], [0, 1, 2, 3]):
            self.assertIs(is_fall(PLAN, fall), False, fall)

    def test_it_is_a_list_of_integers(self):
        for thing in (None, 0, "", "0", (), (0,), {}, {0: 1}, [True], [False], [True, 0], [0, True], [None], ["0"],
                      [(0,)], [[0]], [0, [1]], [10 ** 39]):
            self.assertIs(is_fall(PLAN, thing), False, thing)

    def test_any_object_is_judged(self):
        for plan in (PLAN, Plan((0,), 1, []), FORTY):
            for thing in ODD_THINGS:
                self.assertIs(is_fall(plan, thing), False)

    def test_forty_pieces(self):
        backwards = list(range(39, -1, -1))
        self.assertIs(is_fall(FORTY, list(range(40))), True)
        self.assertIs(is_fall(FORTY, backwards), True)
        self.assertIs(is_fall(FORTY, backwards + [0]), False)
        self.assertIs(is_fall(FORTY_EPOCHS, list(range(20))), True)
        self.assertIs(is_fall(FORTY_EPOCHS, list(range(18)) + [19, 18]), False)

    def test_a_plan_without_pieces_has_one_fall(self):
        for plan in (Plan((0,), 1, []), Plan((0,), 1, [None, None])):
            self.assertIs(is_fall(plan, []), True)
            self.assertIs(is_fall(plan, [0]), False)


class WhatIsFound(unittest.TestCase):
    def test_the_example(self):
        self.assertEqual([content_after(PLAN, [1]), content_after(PLAN, [1, 0, 2]), epoch_in(PLAN, [1, 0])],
                         [(0, 0, 1, 0), (0, 1, 2, 0), 0])

    def test_pieces_overwrite_in_their_order(self):
        plan = Plan((7, 7), 2, [(0, (1, 1)), (1, (2,)), (0, (3,))])
        for fall, content in (([], (7, 7)), ([0, 1, 2], (3, 2)), ([2, 1, 0], (1, 1)), ([1, 0, 2], (3, 1)),
                              ([2, 0, 1], (1, 2)), ([1], (7, 2)), ([2], (3, 7))):
            self.assertEqual(content_after(plan, fall), content)
            self.assertIsInstance(content_after(plan, fall), tuple)

    def test_it_is_found_just_if_it_matches(self):
        chance = random.Random(12)
        for _ in range(100):
            plan = any_plan(chance, Plan, 4)
            for fall in all_falls(plan):
                pattern, content = any_pattern(chance, len(plan.base)), after(plan, fall)
                self.assertEqual(content_after(plan, fall), content)
                self.assertIs(is_found(plan, fall, pattern), is_let(pattern, content))

    def test_forty_pieces(self):
        self.assertEqual(content_after(FORTY, list(range(40))), (1,) * 4 + (2,) * 20)
        self.assertEqual(content_after(FORTY, list(range(39, -1, -1))), (1,) * 20 + (2,) * 4)
        self.assertIs(is_found(FORTY, list(range(40)), {3: (1,), 4: (2,)}), True)
        self.assertIs(is_found(FORTY, list(range(40)), {3: (1,), 4: (1,)}), False)


class Epochs(unittest.TestCase):
    def test_the_least_epoch_that_it_is_in(self):
        plan = Plan((0, 0), 1, [None, (0, (1, 1)), None, None, (0, (2, 2)), None, (0, (3,)), None])
        for fall, epoch in (([], 0), ([0], 1), ([1], 1), ([1, 0], 1), ([0, 1, 2], 3), ([0, 1, 3, 2], 3),
                            ([0, 1, 2, 3, 4], 4)):
            self.assertEqual(epoch_in(plan, fall), epoch)
        self.assertEqual(epoch_in(Plan((0,), 1, [None, None]), []), 0)
        self.assertEqual(epoch_in(FORTY_EPOCHS, list(range(20))), 19)

    def test_all_lower_pieces_and_no_higher_ones(self):
        chance = random.Random(13)
        for _ in range(60):
            plan = any_plan(chance, Plan, 4)
            epochs = epochs_of(plan)
            for fall in all_falls(plan):
                inside = [epoch for epoch in range(plan.epochs)
                          if all(at >= epoch or piece in fall for piece, at in enumerate(epochs))
                          and all(epochs[piece] <= epoch for piece in fall)]
                self.assertEqual(epoch_in(plan, fall), inside[0])


class Ready(unittest.TestCase):
    def test_the_pieces_behind_which_a_fall_is_still_a_fall(self):
        chance = random.Random(30)
        for _ in range(60):
            plan = any_plan(chance, Plan, 4)
            for fall in all_falls(plan):
                able = [piece for piece in range(len(plan.pieces)) if is_fall(plan, fall + [piece])]
                self.assertEqual(ready_behind(piece_epochs(plan), fall), able)


class Errors(unittest.TestCase):
    def test_invalid_falls(self):
        for fall in ODD_THINGS + [None, (), (0,), [0, 0], [2], [0, 2], [3], [-1], [True], [0, False], ["0"], 0, {}]:
            for call in (lambda: content_after(PLAN, fall), lambda: epoch_in(PLAN, fall),
                         lambda: is_found(PLAN, fall, {}), lambda: is_found(PLAN, fall, {0: (9,)}),
                         lambda: is_found(PLAN, fall, fall)):
                with self.assertRaises(InvalidFall):
                    call()

    def test_invalid_patterns(self):
        for pattern in ODD_THINGS + [None, [], {4: (0,)}, {0: ()}, {0: (1, 0)}, {True: (0,)}, {0: (True,)}, {0: [0]}]:
            with self.assertRaises(InvalidPattern):
                is_found(PLAN, [0], pattern)

    def test_arguments_stay(self):
        fall, pattern = [1, 0], {2: (1,), 0: (0,)}
        content_after(PLAN, fall)
        epoch_in(PLAN, fall)
        is_fall(PLAN, fall)
        is_found(PLAN, fall, pattern)
        self.assertEqual([fall, list(pattern.items())], [[1, 0], [(2, (1,)), (0, (0,))]])
        self.assertEqual(PLAN.base, (0, 0, 0, 0))

    def test_by_name(self):
        self.assertIs(is_fall(thing=[0], plan=PLAN), True)
        self.assertEqual(content_after(fall=[0], plan=PLAN), (0, 1, 0, 0))
        self.assertEqual(epoch_in(fall=[0, 1, 2], plan=PLAN), 1)
        self.assertIs(is_found(pattern={1: (1,)}, fall=[0], plan=PLAN), True)


if __name__ == "__main__":
    unittest.main()
