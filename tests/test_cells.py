"""Contents and patterns ([2], [3], [8])."""

import random
import unittest
from itertools import product

from afterfall.cells import both, is_content, is_pattern, matches
from afterfall.errors import InvalidContent, InvalidPattern
from tests.oracle import ODD_THINGS

ALL = (0, 1, 2, 3, 4, 5, 6, 7)


class Contents(unittest.TestCase):
    def test_what_is_one(self):
        for thing in ((0,), (7,), (0, 7, 3), ALL, (0,) * 24, ALL * 3):
            self.assertIs(is_content(thing), True, thing)

    def test_what_is_none(self):
        for thing in ((), (0,) * 25, ALL * 3 + (0,), (8,), (-1,), (0, 8), (0, -1), [0], [0, 1], (0, None), (0, "1"),
                      (0, (1,)), {0: 1}, {}, [], 0, None, "0"):
            self.assertIs(is_content(thing), False, thing)

    def test_a_bool_is_no_worth(self):
        for thing in ((True,), (False,), (0, True), (False, 0), (1,) * 23 + (True,)):
            self.assertIs(is_content(thing), False, thing)

    def test_any_object_is_judged(self):
        for thing in ODD_THINGS:
            self.assertIs(is_content(thing), False, thing)

    def test_by_name(self):
        self.assertIs(is_content(thing=(0,)), True)


class Patterns(unittest.TestCase):
    def test_what_is_one(self):
        for cells, thing in ((1, {}), (1, {0: (0,)}), (1, {0: (7,)}), (2, {1: (0, 7)}), (24, {23: ALL, 0: (3,)}),
                             (24, {cell: ALL for cell in range(24)}), (3, {2: (1, 2, 4)}), (24, {})):
            self.assertIs(is_pattern(cells, thing), True, thing)

    def test_its_cells_are_those_of_the_store(self):
        for cells in range(1, 25):
            self.assertIs(is_pattern(cells, {cells - 1: (0,)}), True)
            self.assertIs(is_pattern(cells, {cells: (0,)}), False)
            self.assertIs(is_pattern(cells, {0: (0,), cells: (0,)}), False)
            self.assertIs(is_pattern(cells, {-1: (0,)}), False)

    def test_its_worths_ascend_and_are_worths(self):
        for worths in ((), (8,), (-1,), (0, 8), (-1, 0), (1, 1), (1, 0), (0, 2, 1), (0, 1, 1), [0], [0, 1], 0, None,
                       "0", {0: 1}, (0, None), (0, "1"), ("0",), ((0,),)):
            self.assertIs(is_pattern(2, {0: worths}), False, worths)
            self.assertIs(is_pattern(2, {0: (0,), 1: worths}), False, worths)
            self.assertIs(is_pattern(2, {1: worths, 0: (0,)}), False, worths)

    def test_a_bool_is_no_cell_and_no_worth(self):
        for thing in ({True: (0,)}, {False: (0,)}, {0: (True,)}, {0: (0, True)}, {0: (False, 1)}, {0: (0,), True: (0,)}):
            self.assertIs(is_pattern(2, thing), False, thing)

    def test_other_keys_are_no_cells(self):
        for key in ("0", "", (), (0,), ((0, True),), 10 ** 39):
            self.assertIs(is_pattern(2, {key: (0,)}), False, key)

    def test_any_object_is_judged(self):
        for thing in ODD_THINGS:
            for cells in (1, 5, 24):
                self.assertIs(is_pattern(cells, thing), False, thing)

    def test_by_name(self):
        self.assertIs(is_pattern(thing={1: (0,)}, cells=2), True)


class Matches(unittest.TestCase):
    def test_the_example(self):
        self.assertIs(matches({0: (1, 2), 2: (0,)}, (2, 5, 0)), True)

    def test_each_cell_counts(self):
        pattern = {0: (1, 2), 2: (0,), 3: (7,)}
        for content in product((0, 1, 2, 3), (0, 1), (0, 1), (6, 7)):
            wanted = content[0] in (1, 2) and content[2] == 0 and content[3] == 7
            self.assertIs(matches(pattern, content), wanted, content)

    def test_an_empty_pattern_matches_all(self):
        self.assertIs(matches({}, (3,)), True)
        self.assertIs(matches({}, ALL * 3), True)

    def test_the_last_of_24_cells(self):
        self.assertIs(matches({23: (7,)}, ALL * 3), True)
        self.assertIs(matches({23: (6,)}, ALL * 3), False)

    def test_invalid_content(self):
        for content in ODD_THINGS + [(), None, [0], (8,), (0,) * 25, (True,)]:
            with self.assertRaises(InvalidContent):
                matches({0: (0,)}, content)

    def test_invalid_pattern(self):
        for pattern in ODD_THINGS + [None, [], {2: (0,)}, {0: (1, 0)}, {True: (0,)}, {0: (False,)}, {0: ()}]:
            with self.assertRaises(InvalidPattern):
                matches(pattern, (0, 0))

    def test_the_content_is_judged_first(self):
        for thing in ODD_THINGS:
            with self.assertRaises(InvalidContent):
                matches(thing, thing)
            with self.assertRaises(InvalidContent):
                matches(thing, (8,))

    def test_by_name(self):
        self.assertIs(matches(content=(1,), pattern={0: (1,)}), True)
        self.assertIs(matches(content=(0,), pattern={0: (1,)}), False)


class Both(unittest.TestCase):
    def test_the_examples(self):
        self.assertEqual(both(3, {0: (1, 2)}, {0: (2, 3), 1: (0,)}), {0: (2,), 1: (0,)})
        self.assertIsNone(both(3, {0: (1,)}, {0: (2,)}))

    def test_one_cell_without_a_worth_is_enough(self):
        self.assertIsNone(both(3, {0: (1,), 1: (1,), 2: (0, 1)}, {0: (1,), 1: (2,), 2: (1, 2)}))
        self.assertIsNone(both(2, {1: (0,)}, {1: (1,), 0: (1,)}))

    def test_a_content_matches_it_just_if_it_matches_both(self):
        chance = random.Random(8)
        met, none = 0, 0
        for _ in range(400):
            one, two = some_pattern(chance), some_pattern(chance)
            pattern = both(3, one, two)
            contents = list(product((0, 1, 2), repeat=3))
            wanted = [matches(one, content) and matches(two, content) for content in contents]
            if pattern is None:
                none += 1
                self.assertFalse(any(wanted))
            else:
                met += 1
                self.assertTrue(is_pattern(3, pattern))
                self.assertEqual(sorted(pattern), sorted({*one, *two}))
                self.assertEqual([matches(pattern, content) for content in contents], wanted)
        self.assertTrue(met > 50 and none > 50)

    def test_cells_that_let_all_stay(self):
        self.assertEqual(both(3, {0: ALL}, {}), {0: ALL})
        self.assertEqual(both(3, {}, {2: ALL, 1: (5,)}), {1: (5,), 2: ALL})
        self.assertEqual(both(3, {}, {}), {})

    def test_keys_ascend(self):
        one, two = {2: (0, 1), 0: (0,)}, {3: (1,), 1: (1,), 2: (1, 2)}
        self.assertEqual(list(both(4, one, two).items()), [(0, (0,)), (1, (1,)), (2, (1,)), (3, (1,))])
        self.assertEqual(list(both(4, two, one).items()), [(0, (0,)), (1, (1,)), (2, (1,)), (3, (1,))])
        backwards = {cell: (0,) for cell in reversed(range(24))}
        self.assertEqual(list(both(24, backwards, {})), list(range(24)))
        self.assertEqual(list(both(24, {}, backwards)), list(range(24)))

    def test_arguments_stay_and_the_result_is_new(self):
        one, two = {1: (0, 1), 0: (0,)}, {1: (1, 2)}
        both(2, one, two)
        self.assertEqual([list(one.items()), two], [[(1, (0, 1)), (0, (0,))], {1: (1, 2)}])
        for pattern, other in ((one, {}), ({}, one), (one, one)):
            result = both(2, pattern, other)
            result[0] = (7,)
            self.assertEqual(one, {1: (0, 1), 0: (0,)})

    def test_invalid_patterns(self):
        for thing in ODD_THINGS + [None, [], {3: (0,)}, {0: (1, 0)}, {True: (0,)}, {0: (False,)}, {0: ()}]:
            for pattern, other in ((thing, {}), ({}, thing), (thing, thing), ({0: (1,)}, thing), (thing, {0: (1,)})):
                with self.assertRaises(InvalidPattern):
                    both(3, pattern, other)

    def test_none_is_not_returned_for_a_wrong_pattern(self):
        with self.assertRaises(InvalidPattern):
            both(2, {0: (0,)}, {0: (1,), 2: (0,)})

    def test_by_name(self):
        self.assertEqual(both(other={0: (1,)}, cells=1, pattern={}), {0: (1,)})


def some_pattern(chance):
    return {cell: tuple(sorted(chance.sample((0, 1, 2), chance.randint(1, 2))))
            for cell in chance.sample(range(3), chance.randint(0, 3))}


if __name__ == "__main__":
    unittest.main()
