"""Contents that can be found, in ascending order ([2], [4], [16])."""

import itertools
import random
import unittest

from afterfall.cells import matches
from afterfall.contents import contents, next_content
from afterfall.errors import InvalidContent, InvalidNumber, InvalidPattern
from afterfall.finding import find
from afterfall.plans import Plan
from afterfall.same import left_by
from tests.oracle import NONE, ODD_THINGS, any_pattern, any_plan, contents_of, large_plan
from tests.test_finding import WRONG_PATTERNS

EXAMPLE = Plan((0, 0), 1, [(0, (1, 1)), None, (1, (2,))])

# For a store with two cells.
WRONG_CONTENTS = [(), (0,), (0, 0, 0), (0, 8), (0, -1), (0, True), (False, 0), [0, 0], "00", (0, "0"), (0, None), 0, -1,
                  True, False, {}, {0: 0}, (0,) * 24, (0,) * 25, (10 ** 39, 0)]
WRONG_NUMBERS = [-1, 100, 101, True, False, None, "1", "", (1,), [1], {}, 10 ** 39, -10 ** 39]


class Examples(unittest.TestCase):
    def test_those_of_the_document(self):
        self.assertEqual(contents(EXAMPLE, {}, 9), [(0, 0), (0, 1), (1, 0), (1, 1), (1, 2)])
        self.assertEqual([next_content(EXAMPLE, {}, (0, 1)), next_content(EXAMPLE, {1: (2,)}, (1, 2))], [(1, 0), None])

    def test_the_least_of_all(self):
        self.assertEqual(next_content(EXAMPLE, {}, None), (0, 0))
        self.assertEqual(next_content(EXAMPLE, {1: (1, 2)}, None), (0, 1))
        self.assertEqual(next_content(EXAMPLE, {1: (2, 3)}, None), (1, 2))
        self.assertIsNone(next_content(EXAMPLE, {1: (3,)}, None))
        self.assertIsNone(next_content(EXAMPLE, {0: (0,), 1: (2,)}, None))

    def test_strictly_greater_than_one_that_cannot_be_found_itself(self):
        for content, wanted in (((0, 0), (0, 1)), ((0, 2), (1, 0)), ((0, 7), (1, 0)), ((1, 0), (1, 1)), ((1, 1), (1, 2)),
                                ((1, 2), None), ((1, 7), None), ((2, 0), None), ((7, 7), None)):
            self.assertEqual(next_content(EXAMPLE, {}, content), wanted)
        for content, wanted in (((0, 0), (1, 0)), ((0, 7), (1, 0)), ((1, 0), None), ((0, 1), (1, 0))):
            self.assertEqual(next_content(EXAMPLE, {1: (0, 3)}, content), wanted)

    def test_as_many_as_the_number(self):
        for most in range(8):
            self.assertEqual(contents(EXAMPLE, {}, most), [(0, 0), (0, 1), (1, 0), (1, 1), (1, 2)][:most])
        self.assertEqual([contents(EXAMPLE, {1: (3,)}, 99), contents(EXAMPLE, {1: (3,)}, 0)], [[], []])
        self.assertEqual(contents(EXAMPLE, {0: (1,), 1: (0, 2)}, 99), [(1, 0), (1, 2)])

    def test_no_pieces(self):
        plan = Plan((3, 4), 1, [None])
        self.assertEqual([contents(plan, {}, 99), contents(plan, {0: (4,)}, 99)], [[(3, 4)], []])
        self.assertEqual([next_content(plan, {}, (3, 3)), next_content(plan, {}, (3, 4))], [(3, 4), None])


class AgainstAllFalls(unittest.TestCase):
    def test_small_plans(self):
        chance = random.Random(43)
        sizes = {}
        for _ in range(500):
            plan = any_plan(chance, Plan)
            cells = len(plan.base)
            pattern = any_pattern(chance, cells)
            found = contents_of(plan, pattern)
            sizes[len(found)] = sizes.get(len(found), 0) + 1
            for most in (0, 1, len(found), chance.randint(0, 99), 99):
                self.assertEqual(contents(plan, pattern, most), found[:most])
            asked = [tuple(chance.randrange(8) for _ in range(cells)) for _ in range(4)]
            for content in found + asked:
                wanted = min((other for other in found if other > content), default=None)
                self.assertEqual(next_content(plan, pattern, content), wanted)
            self.assertEqual(next_content(plan, pattern, None), found[0] if found else None)
        self.assertTrue(sizes[0] > 50 and max(sizes) >= 8 and len(sizes) > 6, sizes)

    def test_plans_of_eight_cells_and_twelve_pieces(self):
        chance = random.Random(44)
        for _ in range(40):
            plan = any_plan(chance, Plan, 12)
            self.assertEqual(contents(plan, {}, 99), sorted(left_by(plan)[0])[:99])


class LargePlans(unittest.TestCase):
    def test_forty_pieces_in_one_epoch(self):
        # Each cell holds 0, 1 or 2, whatever the others hold.
        plan = Plan((0,) * 20, 1, [(0, (1,) * 20), (0, (2,) * 20)])
        wanted = [(0,) * 15 + last for last in itertools.product(range(3), repeat=5)]
        self.assertEqual(contents(plan, {}, 99), wanted[:99])
        self.assertEqual(next_content(plan, {}, (1,) + (2,) * 19), (2,) + (0,) * 19)
        self.assertEqual(next_content(plan, {0: (1, 2)}, None), (1,) + (0,) * 19)
        self.assertIsNone(next_content(plan, {}, (2,) * 20))
        self.assertEqual(next_content(plan, {}, (2,) * 19 + (1,)), (2,) * 20)
        self.assertEqual(contents(plan, {cell: (2,) for cell in range(19)}, 99), [(2,) * 19 + (last,) for last in range(3)])

    def test_forty_pieces_that_overlap(self):
        # The piece of each step covers all cells from its own on; the last one to come ahead of a cell wins it.
        plan = Plan((7,) * 24, 24, [(step % 24, (step % 3,) * (24 - step % 24)) for step in range(40)])
        found = contents(plan, {}, 99)
        self.assertEqual(found[0], (0,) * 24)
        self.check(plan, {}, found)

    def test_forty_pieces_in_twenty_and_in_many_epochs(self):
        plan = Plan((0, 0), 1, [None if step % 2 else (0, (step // 2 % 7 + 1,) * 2) for step in range(40)])
        wanted = {(one, two) for one in range(8) for two in range(8) if abs(one - two) <= 1} | {(1, 7), (7, 1)}
        self.assertEqual(contents(plan, {}, 99), sorted(wanted))
        self.assertEqual(contents(plan, {0: (3, 5)}, 4), [(3, 2), (3, 3), (3, 4), (5, 4)])
        self.assertEqual(next_content(plan, {}, (1, 2)), (1, 7))
        plan = Plan((0,) * 24, 1, [(0, (1,) * 24), (0, (2,) * 16)] + [None] * 38)
        self.assertEqual(contents(plan, {cell: (2,) for cell in range(15)}, 99), [
            (2,) * 15 + last for last in itertools.product(range(3), *[range(2)] * 8)][:99])

    def test_forty_steps_by_chance(self):
        chance = random.Random(45)
        sizes = []
        for _ in range(20):
            cells = chance.randint(8, 24)
            plan = large_plan(chance, Plan, cells, chance.choice((0, 0.1, 0.5)), 8)
            pattern = {cell: tuple(sorted(chance.sample(range(8), 3))) for cell in range(3, cells) if chance.random() < 0.1}
            found = contents(plan, pattern, 99)
            sizes.append(len(found))
            self.check(plan, pattern, found)
        self.assertTrue(sizes.count(99) > 8 and min(sizes) < 99, sizes)

    def check(self, plan, pattern, found):
        """Each one is found, and nothing between it and the next one can be."""
        self.assertEqual(found, sorted(set(found)))
        for content in found:
            self.assertTrue(matches(pattern, content))
            self.assertIsNotNone(find(plan, {cell: (worth,) for cell, worth in enumerate(content)}, NONE))
        for one, two in zip(found[:12], found[1:]):
            self.assertEqual(next_content(plan, pattern, one), two)
            for cell in range(len(one)):
                if one[:cell] == two[:cell]:
                    # Between them: equal to the first one ahead of the cell, greater there; or below the second one.
                    top = two[cell] if one[:cell + 1] != two[:cell + 1] else 0
                    low = [worth for worth in range(one[cell] + 1, top) if worth in pattern.get(cell, range(8))]
                else:
                    low = [worth for worth in range(one[cell] + 1, 8) if worth in pattern.get(cell, range(8))]
                if low:
                    asked = {**pattern, **{at: (one[at],) for at in range(cell)}, cell: tuple(low)}
                    self.assertIsNone(find(plan, asked, NONE), (one, two, cell))


class Rest(unittest.TestCase):
    def test_errors(self):
        for pattern in WRONG_PATTERNS + ODD_THINGS:
            for last in (None, 5, (0, 0), (0,), 100, pattern):
                with self.assertRaises(InvalidPattern):
                    next_content(EXAMPLE, pattern, last)
                with self.assertRaises(InvalidPattern):
                    contents(EXAMPLE, pattern, last)
        for pattern in ({}, {0: (7,)}):
            for content in WRONG_CONTENTS + ODD_THINGS:
                with self.assertRaises(InvalidContent, msg=repr(content)[:60]):
                    next_content(EXAMPLE, pattern, content)
            for most in WRONG_NUMBERS + ODD_THINGS:
                with self.assertRaises(InvalidNumber, msg=repr(most)[:60]):
                    contents(EXAMPLE, pattern, most)

    def test_a_content_of_another_store(self):
        for cells in (1, 3, 24):
            with self.assertRaises(InvalidContent):
                next_content(EXAMPLE, {}, (0,) * cells)
        with self.assertRaises(InvalidContent):
            next_content(Plan((0,) * 24, 1, []), {}, (0,) * 23)

    def test_arguments_stay_and_results_are_new(self):
        pattern = {1: (0, 1, 2), 0: (0, 1)}
        found = contents(EXAMPLE, pattern, 99)
        found.clear()
        self.assertEqual(len(contents(EXAMPLE, pattern, 99)), 5)
        next_content(EXAMPLE, pattern, (0, 0))
        self.assertEqual(list(pattern.items()), [(1, (0, 1, 2)), (0, (0, 1))])

    def test_a_pattern_counts_as_it_stands_at_the_call(self):
        pattern = {1: (2,)}
        self.assertEqual([contents(EXAMPLE, pattern, 9), next_content(EXAMPLE, pattern, None)], [[(1, 2)], (1, 2)])
        pattern[1] = (1,)
        self.assertEqual([contents(EXAMPLE, pattern, 9), next_content(EXAMPLE, pattern, None)], [[(0, 1), (1, 1)], (0, 1)])

    def test_by_name(self):
        self.assertEqual(next_content(content=None, pattern={}, plan=EXAMPLE), (0, 0))
        self.assertEqual(contents(most=1, pattern={}, plan=EXAMPLE), [(0, 0)])


if __name__ == "__main__":
    unittest.main()
