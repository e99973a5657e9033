"""What is sure where a pattern can be found ([2], [14])."""

import random
import unittest

from afterfall.claims import fits
from afterfall.errors import InvalidClaims, InvalidPattern, Shut
from afterfall.falls import is_fall, is_found
from afterfall.finding import find
from afterfall.plans import Plan
from afterfall.sure import first_fall, surely_ahead, surely_came, surely_lost
from tests.oracle import NONE, ODD_THINGS, any_claims, any_pattern, any_plan, such_falls
from tests.test_claims import WRONG_CLAIMS
from tests.test_finding import LINE, WRONG_PATTERNS

EXAMPLE = Plan((0, 0), 2, [(0, (1, 1)), (1, (2,)), (0, (3,))])
FUNCTIONS = (surely_came, surely_lost, surely_ahead, first_fall)


class Examples(unittest.TestCase):
    def test_those_of_the_document(self):
        pattern = {0: (1,), 1: (2,)}
        self.assertEqual([surely_came(EXAMPLE, pattern, NONE), surely_lost(EXAMPLE, pattern, NONE)], [[0, 1], []])
        self.assertEqual([surely_ahead(EXAMPLE, pattern, NONE), first_fall(EXAMPLE, pattern, NONE)],
                         [[(0, 1)], [0, 1]])

    def test_nothing_is_sure_where_all_is_let(self):
        self.assertEqual([function(EXAMPLE, {}, NONE) for function in FUNCTIONS], [[], [], [], []])

    def test_lost_pieces(self):
        self.assertEqual(surely_lost(EXAMPLE, {0: (0,)}, NONE), [0, 2])
        self.assertEqual(surely_lost(EXAMPLE, {0: (0,), 1: (0,)}, NONE), [0, 1, 2])
        self.assertEqual(surely_lost(EXAMPLE, {1: (0,)}, NONE), [0, 1])
        self.assertEqual(surely_lost(EXAMPLE, {0: (3,)}, ([], [1], [])), [1])
        self.assertEqual(surely_lost(EXAMPLE, {}, ([], [0, 2], [])), [0, 2])

    def test_claims_are_sure(self):
        self.assertEqual(surely_came(EXAMPLE, {}, ([1], [], [])), [1])
        self.assertEqual(surely_came(EXAMPLE, {}, ([1], [], [(2, 0)])), [0, 1, 2])
        self.assertEqual(surely_ahead(EXAMPLE, {}, ([1], [], [(2, 0)])), [(2, 0)])
        self.assertEqual(surely_ahead(EXAMPLE, {}, ([], [], [(1, 2), (2, 0)])), [(1, 0), (1, 2), (2, 0)])

    def test_pieces_of_unlike_epochs(self):
        plan = Plan((0, 0), 1, [(0, (1,)), (1, (1,)), None, (0, (2,)), None, None, (1, (3,))])
        self.assertEqual(surely_came(plan, {0: (2,)}, NONE), [0, 1, 2])
        self.assertEqual(surely_ahead(plan, {0: (2,)}, NONE), [(0, 2), (1, 2)])
        self.assertEqual(surely_lost(plan, {0: (2,), 1: (1,)}, NONE), [3])
        self.assertEqual(surely_ahead(plan, {1: (3,)}, NONE), [(0, 2), (0, 3), (1, 2), (1, 3), (2, 3)])
        self.assertEqual(surely_lost(plan, {0: (0,)}, NONE), [0, 2, 3])
        self.assertEqual(surely_came(plan, {0: (1,)}, ([1], [], [])), [0, 1])
        self.assertEqual(first_fall(plan, {0: (2,)}, ([], [], [(1, 0)])), [1, 0, 2])

    def test_ahead_by_the_pattern_within_one_epoch(self):
        plan = Plan((0, 0, 0), 3, [(0, (1, 1)), (1, (2, 2)), (2, (3,)), (0, (4,))])
        self.assertEqual(surely_ahead(plan, {0: (1,), 1: (2,), 2: (3,)}, NONE), [(0, 1), (0, 2), (1, 2)])
        self.assertEqual(surely_ahead(plan, {0: (1,), 1: (2,), 2: (2,)}, ([2], [], [])), [(0, 1), (2, 1)])
        self.assertEqual(surely_ahead(plan, {0: (1,), 1: (2,)}, ([3], [], [])), [(0, 1), (3, 0), (3, 1)])
        self.assertEqual(surely_ahead(plan, {}, ([0, 1, 2, 3], [], [])), [])

    def test_a_list_stands_ahead_of_each_longer_one_that_begins_with_it(self):
        plan = Plan((0,), 1, [(0, (1,)), (0, (2,)), (0, (1,))])
        self.assertEqual(first_fall(plan, {0: (1,)}, NONE), [0])
        self.assertEqual(first_fall(plan, {0: (0, 1)}, NONE), [])
        self.assertEqual(first_fall(plan, {0: (2,)}, NONE), [0, 1])
        self.assertEqual(first_fall(plan, {0: (1,)}, ([1], [], [])), [0, 1, 2])
        self.assertEqual(first_fall(plan, {0: (1,)}, ([1], [2], [])), [1, 0])
        self.assertEqual(first_fall(plan, {0: (2,)}, ([2], [0], [])), [2, 1])
        self.assertEqual(first_fall(plan, {0: (1,)}, ([], [], [(2, 0)])), [1, 2, 0])


class AgainstAllFalls(unittest.TestCase):
    def test_small_plans(self):
        chance = random.Random(24)
        seen = {True: 0, False: 0}
        for _ in range(1500):
            plan = any_plan(chance, Plan)
            pattern, claims = any_pattern(chance, len(plan.base)), any_claims(chance, plan)
            such = such_falls(plan, pattern, claims)
            seen[bool(such)] += 1
            if not such:
                for function in FUNCTIONS:
                    with self.assertRaises(Shut):
                        function(plan, pattern, claims)
                continue
            numbers = range(len(plan.pieces))
            came = [piece for piece in numbers if all(piece in fall for fall in such)]
            lost = [piece for piece in numbers if all(piece not in fall for fall in such)]
            ahead = [(piece, other) for piece in came for other in came if piece != other
                     and all(fall.index(piece) < fall.index(other) for fall in such)]
            told = (plan.steps, pattern, claims)
            self.assertEqual(surely_came(plan, pattern, claims), came, told)
            self.assertEqual(surely_lost(plan, pattern, claims), lost, told)
            self.assertEqual(surely_ahead(plan, pattern, claims), ahead, told)
            self.assertEqual(first_fall(plan, pattern, claims), such[0], told)
            self.assertEqual(such[0], min(such))
        self.assertTrue(min(seen.values()) > 300)


class LargePlans(unittest.TestCase):
    def test_one_good_piece_among_forty_in_one_epoch(self):
        plan = Plan((0, 0), 2, [(0, (step % 7 + 1, 0)) for step in range(39)] + [(0, (0, 1))])
        pattern = {0: (0,), 1: (1,)}
        self.assertEqual(surely_came(plan, pattern, NONE), [39])
        self.assertEqual(surely_lost(plan, pattern, NONE), [])
        self.assertEqual(surely_ahead(plan, pattern, NONE), [])
        self.assertEqual(first_fall(plan, pattern, NONE), list(range(40)))
        everything = (list(range(40)), [], [])
        self.assertEqual(surely_came(plan, pattern, everything), list(range(40)))
        self.assertEqual(surely_ahead(plan, pattern, everything), [(piece, 39) for piece in range(39)])
        self.assertEqual(surely_lost(plan, {0: (0,), 1: (0,)}, NONE), list(range(40)))

    def test_an_order_that_is_forced_through_one_epoch(self):
        # Piece by piece each spoils the next cell, which only the next piece mends.
        plan = Plan((0,) * 24, 24, [(cell, (1, 2)) for cell in range(23)] + [(23, (1,))] + [None] * 10 + [(0, (1,))] * 6)
        pattern = {cell: (1,) for cell in range(24)}
        chain = [(piece, other) for piece in range(24) for other in range(piece + 1, 24)]
        self.assertEqual(surely_came(plan, pattern, NONE), list(range(24)))
        self.assertEqual(surely_ahead(plan, pattern, NONE), chain)
        self.assertEqual(first_fall(plan, pattern, NONE), list(range(24)))
        self.assertEqual(first_fall(plan, pattern, ([29], [], [])), list(range(30)))
        self.assertEqual(surely_ahead(plan, pattern, ([29], [], [])), sorted(chain + [(p, 29) for p in range(24)]))
        with self.assertRaises(Shut):
            surely_ahead(plan, pattern, ([], [], [(1, 0)]))

    def test_twenty_epochs(self):
        plan = Plan((0, 0), 1, [None if step % 2 else (0, (step // 2 % 7 + 1,) * 2) for step in range(40)])
        pattern = {0: (6,), 1: (7,)}
        # The cells hold 6 and 7 in the epochs 6 and 13, while one piece of the two came.
        came = list(range(12)) + [13]
        self.assertEqual(surely_came(plan, pattern, NONE), came)
        self.assertEqual(surely_lost(plan, pattern, NONE), [26] + list(range(28, 40)))
        self.assertEqual(surely_lost(plan, pattern, ([], [20], [])), [12] + list(range(14, 40)))
        self.assertEqual(surely_came(plan, pattern, ([20], [], [])), list(range(26)) + [27])
        self.assertEqual(surely_ahead(plan, pattern, NONE), [
            (piece, other) for piece in came for other in came if piece // 2 < other // 2])
        self.assertEqual(first_fall(plan, pattern, NONE), list(range(26)) + [27])
        self.assertEqual(first_fall(plan, pattern, ([], [20], [(1, 0)])), [1, 0] + list(range(2, 12)) + [13])
        with self.assertRaises(Shut):
            surely_came(plan, pattern, ([30], [], []))

    def test_forty_pieces_by_chance(self):
        chance = random.Random(25)
        seen = {True: 0, False: 0}
        for _ in range(25):
            cells = chance.randint(2, 24)
            plan = Plan((0,) * cells, 24, [])
            while len(plan.steps) < 40:
                first = chance.randrange(cells)
                many = chance.randint(1, min(cells - first, 6))
                write = (first, tuple(chance.randrange(3) for _ in range(many)))
                plan = plan.with_step(len(plan.steps), None if chance.random() < 0.05 else write)
            pattern = {cell: (chance.randrange(3),) for cell in range(cells) if chance.random() < 0.3}
            claims = ([piece for piece in range(len(plan.pieces)) if chance.random() < 0.1], [], [])
            if find(plan, pattern, claims) is None:
                seen[False] += 1
                for function in FUNCTIONS:
                    with self.assertRaises(Shut):
                        function(plan, pattern, claims)
            else:
                seen[True] += 1
                self.consistent(plan, pattern, claims)
        self.assertTrue(min(seen.values()) > 5, seen)

    def consistent(self, plan, pattern, claims):
        """Compare what is sure with what can be found under further claims."""
        there, _, ahead = claims
        first = first_fall(plan, pattern, claims)
        self.assertTrue(is_fall(plan, first) and fits(plan, claims, first) and is_found(plan, first, pattern))
        self.assertLessEqual(first, find(plan, pattern, claims))
        came, lost = surely_came(plan, pattern, claims), surely_lost(plan, pattern, claims)
        for piece in range(len(plan.pieces)):
            if piece not in there:
                self.assertEqual(piece in came, find(plan, pattern, (there, [piece], ahead)) is None)
                more = (sorted(there + [piece]), [], ahead)
                self.assertEqual(piece in lost, find(plan, pattern, more) is None)
        pairs = surely_ahead(plan, pattern, claims)
        self.assertEqual(pairs, sorted(pairs))
        for piece in came:
            for other in came:
                if plan.epoch_of(piece) == plan.epoch_of(other) and piece != other:
                    turned = find(plan, pattern, (there, [], [(other, piece)]))
                    self.assertEqual((piece, other) in pairs, turned is None)
                elif piece != other:
                    self.assertEqual((piece, other) in pairs, plan.epoch_of(piece) < plan.epoch_of(other))


class Rest(unittest.TestCase):
    def test_errors(self):
        for function in FUNCTIONS:
            for pattern in WRONG_PATTERNS + ODD_THINGS:
                for claims in (NONE, None, pattern, ([9], [], [])):
                    with self.assertRaises(InvalidPattern):
                        function(LINE, pattern, claims)
            for claims in WRONG_CLAIMS + ODD_THINGS:
                for pattern in ({}, {0: (7,)}):
                    with self.assertRaises(InvalidClaims):
                        function(LINE, pattern, claims)
            for pattern, claims in (({0: (7,)}, NONE), ({0: (3,)}, ([], [0], [])), ({0: (1,)}, ([4], [], [])),
                                    ({}, ([4], [0], [])), ({0: (1,)}, ([], [], [(0, 2)]))):
                with self.assertRaises(Shut):
                    function(LINE, pattern, claims)

    def test_arguments_stay_and_results_are_new(self):
        pattern, claims = {1: (1, 2), 0: (1, 2)}, ([1], [3], [(0, 2)])
        for function in FUNCTIONS:
            result = function(LINE, pattern, claims)
            self.assertEqual(list(pattern.items()), [(1, (1, 2)), (0, (1, 2))])
            self.assertEqual(claims, ([1], [3], [(0, 2)]))
            before = list(result)
            result.append(9)
            self.assertEqual(function(LINE, pattern, claims), before)
            self.assertEqual(claims, ([1], [3], [(0, 2)]))
        claims = ([0, 1], [2, 3, 4], [])
        surely_came(LINE, {}, claims).clear()
        surely_lost(LINE, {}, claims).clear()
        self.assertEqual(claims, ([0, 1], [2, 3, 4], []))

    def test_by_name(self):
        for function in FUNCTIONS:
            self.assertEqual(function(claims=NONE, pattern={}, plan=LINE), [])


if __name__ == "__main__":
    unittest.main()
