"""Worths that can be found together ([2], [15])."""

import itertools
import random
import unittest

from afterfall.errors import InvalidClaims, InvalidPattern, UnknownCell
from afterfall.finding import find
from afterfall.plans import Plan
from afterfall.worths import together, worths_of
from tests.oracle import (NONE, ODD_THINGS, after, any_claims, any_pattern, any_plan, large_plan, such_falls)
from tests.test_claims import WRONG_CLAIMS
from tests.test_finding import LINE, WRONG_PATTERNS

EXAMPLE = Plan((0, 0), 2, [(0, (1, 1)), (1, (2,))])
FOUR = Plan((0, 1, 2, 3), 4, [(0, (4, 5)), (1, (6, 7, 4)), None, (3, (0,))])

# For a store with two cells.
WRONG_CELLS = [2, -1, True, False, None, "0", "", (0,), [0], 10 ** 39, {}, {0: 1}]
WRONG_LISTS = [None, 0, True, "", "0", (), (0,), (0, 1), {}, {0: 1}, [], [0, 0], [1, 1], [0, 1, 0], [0, 1, 2], [2], [-1],
               [True], [False], [0, True], [0, False], [None], ["0"], [[0]], [(0,)], [0, 1, 0, 1], [10 ** 39], [0, None]]


class Examples(unittest.TestCase):
    def test_those_of_the_document(self):
        self.assertEqual(worths_of(EXAMPLE, {}, NONE, 1), [0, 1, 2])
        self.assertEqual(together(EXAMPLE, {}, NONE, [1, 0]), [(0, 0), (1, 1), (2, 0), (2, 1)])
        self.assertEqual(worths_of(EXAMPLE, {0: (0,)}, NONE, 1), [0, 2])

    def test_tuples_are_in_the_order_of_the_list(self):
        self.assertEqual(together(EXAMPLE, {}, NONE, [0, 1]), [(0, 0), (0, 2), (1, 1), (1, 2)])
        self.assertEqual(together(FOUR, {1: (1, 6)}, NONE, [3, 0]), [(0, 4), (3, 0), (4, 0), (4, 4)])
        self.assertEqual(together(FOUR, {1: (1, 6)}, NONE, [0, 3]), [(0, 3), (0, 4), (4, 0), (4, 4)])
        self.assertEqual(together(FOUR, {3: (0,)}, NONE, [2, 0, 1]), [(7, 4, 5), (7, 4, 6)])
        self.assertEqual(together(FOUR, {3: (0,)}, NONE, [1, 2, 0]), [(5, 7, 4), (6, 7, 4)])

    def test_a_single_cell_in_a_list(self):
        self.assertEqual(together(EXAMPLE, {}, NONE, [1]), [(0,), (1,), (2,)])
        self.assertEqual(together(EXAMPLE, {}, NONE, [0]), [(0,), (1,)])

    def test_a_cell_of_the_pattern_has_only_worths_that_are_let(self):
        self.assertEqual(worths_of(EXAMPLE, {1: (1, 2, 5)}, NONE, 1), [1, 2])
        self.assertEqual(worths_of(EXAMPLE, {0: (1,)}, NONE, 0), [1])
        self.assertEqual(together(EXAMPLE, {1: (0, 1)}, NONE, [1, 0]), [(0, 0), (1, 1)])

    def test_none_if_the_pattern_cannot_be_found(self):
        for pattern, claims in (({0: (5,)}, NONE), ({0: (0,), 1: (1,)}, NONE), ({0: (1,)}, ([], [0], [])),
                                ({1: (1,)}, ([], [], [(0, 1)]))):
            for cell in (0, 1):
                self.assertEqual(worths_of(EXAMPLE, pattern, claims, cell), [])
                self.assertEqual(together(EXAMPLE, pattern, claims, [cell]), [])
            self.assertEqual(together(EXAMPLE, pattern, claims, [1, 0]), [])

    def test_claims(self):
        self.assertEqual(worths_of(EXAMPLE, {}, ([0], [], []), 1), [1, 2])
        self.assertEqual(worths_of(EXAMPLE, {}, ([0], [1], []), 1), [1])
        self.assertEqual(worths_of(EXAMPLE, {}, ([], [], [(1, 0)]), 1), [1])
        self.assertEqual(together(FOUR, {}, ([2], [], []), [1, 3]), [(5, 0), (6, 0)])
        self.assertEqual(together(FOUR, {}, ([2], [], [(1, 0)]), [1, 3]), [(5, 0)])

    def test_no_pieces(self):
        plan = Plan((3, 4), 1, [None])
        self.assertEqual([worths_of(plan, {}, NONE, 0), worths_of(plan, {}, NONE, 1)], [[3], [4]])
        self.assertEqual(together(plan, {}, NONE, [1, 0]), [(4, 3)])
        self.assertEqual(together(plan, {0: (4,)}, NONE, [1, 0]), [])


class AgainstAllFalls(unittest.TestCase):
    def test_small_plans(self):
        chance = random.Random(41)
        seen = {True: 0, False: 0}
        for _ in range(500):
            plan = any_plan(chance, Plan)
            cells = len(plan.base)
            pattern, claims = any_pattern(chance, cells), any_claims(chance, plan)
            found = [after(plan, fall) for fall in such_falls(plan, pattern, claims)]
            seen[bool(found)] += 1
            for cell in range(cells):
                self.assertEqual(worths_of(plan, pattern, claims, cell), sorted({content[cell] for content in found}))
            listed = chance.sample(range(cells), chance.randint(1, min(3, cells)))
            wanted = sorted({tuple(content[cell] for cell in listed) for content in found})
            self.assertEqual(together(plan, pattern, claims, listed), wanted)
        self.assertTrue(min(seen.values()) > 100, seen)


class LargePlans(unittest.TestCase):
    def test_forty_pieces_in_one_epoch(self):
        plan = Plan((0,) * 24, 24, [(step % 20, (step % 7 + 1,) * (step % 3 + 1)) for step in range(40)])
        for cell in range(24):
            written = {step % 7 + 1 for step in range(40) if step % 20 <= cell <= step % 20 + step % 3}
            self.assertEqual(worths_of(plan, {}, NONE, cell), sorted({0} | written))
            self.assertEqual(worths_of(plan, {}, (list(range(40)), [], []), cell), sorted(written or {0}))
        self.consistent(plan, {}, NONE, [7, 8, 9])
        self.consistent(plan, {5: (0,)}, NONE, [7, 6, 4])
        self.consistent(plan, {3: (2, 4)}, ([3], [0, 1, 2], [(23, 4)]), [4, 2, 5])

    def test_forty_pieces_in_twenty_epochs(self):
        plan = Plan((0, 0), 1, [None if step % 2 else (0, (step // 2 % 7 + 1,) * 2) for step in range(40)])
        self.assertEqual([worths_of(plan, {}, NONE, 0), worths_of(plan, {0: (3,)}, NONE, 1)],
                         [list(range(8)), [2, 3, 4]])
        self.assertEqual(together(plan, {}, NONE, [1, 0]), sorted(
            {(one, two) for one in range(8) for two in range(8) if abs(one - two) <= 1} | {(1, 7), (7, 1)}))
        self.assertEqual(worths_of(plan, {}, ([38], [], []), 0), [6])
        self.assertEqual(together(plan, {}, ([37], [], []), [0, 1]), [(4, 5), (5, 5), (5, 6), (6, 5), (6, 6)])

    def test_forty_steps_by_chance(self):
        chance = random.Random(42)
        for _ in range(12):
            plan = large_plan(chance, Plan, 12, chance.choice((0, 0.1, 0.4)), 8)
            pattern = {cell: tuple(sorted(chance.sample(range(8), 4))) for cell in chance.sample(range(12), 2)}
            there = [piece for piece in range(len(plan.pieces)) if chance.random() < 0.05]
            self.consistent(plan, pattern, (there, [], []), chance.sample(range(12), 3))

    def consistent(self, plan, pattern, claims, listed):
        """Compare what can be found together with what can be found, worth by worth."""
        wanted = []
        for row in itertools.product(range(8), repeat=len(listed)):
            held = dict(zip(listed, row))
            if all(held[cell] in pattern.get(cell, range(8)) for cell in listed):
                asked = {**pattern, **{cell: (worth,) for cell, worth in held.items()}}
                if find(plan, asked, claims) is not None:
                    wanted.append(row)
        self.assertEqual(together(plan, pattern, claims, listed), wanted)
        for at, cell in enumerate(listed):
            self.assertEqual(worths_of(plan, pattern, claims, cell), sorted({row[at] for row in wanted}))


class Rest(unittest.TestCase):
    def test_errors(self):
        for function, right, wrong in ((worths_of, 0, WRONG_CELLS), (together, [0], WRONG_LISTS)):
            for cells in wrong + ODD_THINGS:
                for pattern, claims in (({}, NONE), ({0: (7,)}, ([], [0], []))):
                    with self.assertRaises(UnknownCell, msg=repr(cells)[:60]):
                        function(LINE, pattern, claims, cells)
            for cells in (right, None, 9):
                for pattern in WRONG_PATTERNS + ODD_THINGS:
                    for claims in (NONE, None):
                        with self.assertRaises(InvalidPattern):
                            function(LINE, pattern, claims, cells)
                for claims in WRONG_CLAIMS + ODD_THINGS:
                    with self.assertRaises(InvalidClaims):
                        function(LINE, {}, claims, cells)

    def test_one_to_three_cells(self):
        self.assertEqual(together(FOUR, {}, ([], [0, 1, 2], []), [3, 1, 0]), [(3, 1, 0)])
        for cells in ([], [0, 1, 2, 3], [3, 2, 1, 0], [0, 1, 2, 2]):
            with self.assertRaises(UnknownCell):
                together(FOUR, {}, NONE, cells)
        last = Plan((1,) * 24, 1, [])
        self.assertEqual([worths_of(last, {}, NONE, 23), together(last, {}, NONE, [23, 0])], [[1], [(1, 1)]])
        for cell in (24, -1):
            with self.assertRaises(UnknownCell):
                worths_of(last, {}, NONE, cell)
            with self.assertRaises(UnknownCell):
                together(last, {}, NONE, [cell])

    def test_arguments_stay_and_results_are_new(self):
        pattern, claims, cells = {1: (0, 1, 2), 0: (0, 1)}, ([], [], []), [1, 0]
        for function, asked in ((worths_of, 1), (together, cells)):
            result = function(EXAMPLE, pattern, claims, asked)
            before = list(result)
            result.append(result.pop(0))
            self.assertEqual(function(EXAMPLE, pattern, claims, asked), before)
        self.assertEqual([list(pattern.items()), claims, cells], [[(1, (0, 1, 2)), (0, (0, 1))], NONE, [1, 0]])

    def test_arguments_count_as_they_stand_at_the_call(self):
        pattern, claims, cells = {}, ([], [], []), [1]
        self.assertEqual(together(EXAMPLE, pattern, claims, cells), [(0,), (1,), (2,)])
        pattern[0] = (0,)
        cells.append(0)
        self.assertEqual(together(EXAMPLE, pattern, claims, cells), [(0, 0), (2, 0)])
        claims[1].append(1)
        self.assertEqual([together(EXAMPLE, pattern, claims, cells), worths_of(EXAMPLE, pattern, claims, 1)], [[(0, 0)], [0]])

    def test_by_name(self):
        self.assertEqual(worths_of(cell=1, claims=NONE, pattern={}, plan=EXAMPLE), [0, 1, 2])
        self.assertEqual(together(cells=[0], claims=NONE, pattern={}, plan=EXAMPLE), [(0,), (1,)])


if __name__ == "__main__":
    unittest.main()
