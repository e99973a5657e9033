"""Claims ([2], [6], [12])."""

import random
import unittest

from afterfall.claims import fits, is_claims, must_ahead, sure_in
from afterfall.errors import InvalidClaims, InvalidFall, UnknownEpoch, UnknownPiece
from afterfall.plans import Plan
from tests.oracle import (NONE, ODD_THINGS, ahead_of, all_falls, any_claims, any_plan, epochs_of, is_contradiction,
                          is_fit, there_of)

PLAN = Plan((0, 0), 1, [(0, (1, 1)), (0, (2, 2)), None, (0, (3,))])
THREE = Plan((0, 0), 1, [(0, (1, 1)), None, (0, (2, 2)), None, None, (0, (3, 3))])
FORTY = Plan((0,) * 20, 1, [(0, (1,) * 20), (0, (2,) * 20)])
FORTY_EPOCHS = Plan((0,), 1, [None if step % 2 else (0, (1,)) for step in range(40)])

WRONG_CLAIMS = [
    None, 0, "", (), [], {}, [[], [], []], ([], []), ([], [], [], []), ((), [], []), ([], (), []), ([], [], ()),
    ({}, [], []), ([], {}, []), ([], [], {}), (None, [], []), ([], None, []), ([], [], None), ("", [], []),
    ([5], [], []), ([-1], [], []), ([], [5], []), ([], [-1], []), ([], [], [(0, 5)]), ([], [], [(5, 0)]),
    ([], [], [(-1, 0)]), ([], [], [(0, -1)]), ([1, 0], [], []), ([0, 0], [], []), ([], [1, 0], []), ([], [1, 1], []),
    ([], [], [(1, 2), (0, 1)]), ([], [], [(0, 1), (0, 1)]), ([], [], [(0, 2), (0, 1)]), ([], [], [(0, 0)]),
    ([], [], [[0, 1]]), ([], [], [(0,)]), ([], [], [(0, 1, 2)]), ([], [], [0]), ([], [], [()]), ([], [], [None]),
    ([True], [], []), ([False], [], []), ([], [True], []), ([], [False], []), ([], [], [(0, True)]),
    ([], [], [(False, 1)]), ([], [], [(0, "1")]), ([None], [], []), (["0"], [], []), ([[0]], [], []), ([(0,)], [], []),
    ([], ["0"], []), ([], [], ["01"]), ([], [], [(0, None)]), ([10 ** 39], [], []), ([0, 1, 2, 3, 4, 5], [], []),
    # In contradiction:
    ([0], [0], []), ([0, 1, 2], [2], []), ([], [0], [(0, 1)]), ([], [1], [(0, 1)]), ([], [], [(0, 1), (1, 0)]),
    ([], [], [(0, 1), (1, 2), (2, 0)]), ([], [], [(0, 1), (1, 2), (2, 3), (3, 1)]), ([], [], [(4, 0)]),
    ([], [], [(0, 4), (4, 3)]), ([4], [], [(4, 3)]),
]


class IsClaims(unittest.TestCase):
    def test_what_are_some(self):
        for claims in (NONE, ([0], [1], [(2, 0)]), ([0, 1, 2, 3, 4], [], []), ([], [0, 1, 2, 3, 4], []),
                       ([], [], [(0, 1), (0, 2), (1, 2), (3, 0)]), ([0, 1], [2], [(1, 0)]), ([], [0], [(1, 2)]),
                       ([], [], [(0, 4)]), ([4], [0], []), ([], [], [(0, 1), (1, 2), (2, 3), (3, 4)])):
            self.assertIs(is_claims(PLAN, claims), True, claims)

    def test_what_are_none(self):
        for claims in WRONG_CLAIMS + ODD_THINGS:
            self.assertIs(is_claims(PLAN, claims), False, repr(claims)[:60])

    def test_no_pieces_no_claims(self):
        plan = Plan((0,), 1, [None])
        self.assertIs(is_claims(plan, NONE), True)
        for claims in (([0], [], []), ([], [0], []), ([], [], [(0, 1)])):
            self.assertIs(is_claims(plan, claims), False)

    def test_contradictions(self):
        chance = random.Random(14)
        seen = {True: 0, False: 0}
        for _ in range(1500):
            plan = any_plan(chance, Plan)
            numbers = range(len(plan.pieces))
            pairs = [(p, o) for p in numbers for o in numbers if p != o and chance.random() < 0.15]
            claims = ([p for p in numbers if chance.random() < 0.2], [p for p in numbers if chance.random() < 0.1], pairs)
            wanted = not is_contradiction(plan, claims)
            seen[wanted] += 1
            self.assertIs(is_claims(plan, claims), wanted, (plan.steps, claims))
        self.assertTrue(min(seen.values()) > 200)

    def test_a_tuple_from_a_higher_epoch_to_a_lower_one_is_a_contradiction(self):
        for pair in ((2, 0), (2, 1), (4, 0), (5, 3)):
            self.assertIs(is_claims(THREE, ([], [], [pair])), False)
            self.assertIs(is_claims(THREE, ([], [], [(pair[1], pair[0])])), True)

    def test_a_higher_piece_there_and_a_lower_one_gone_are_claims(self):
        self.assertIs(is_claims(THREE, ([5], [0], [])), True)

    def test_long_chains(self):
        chain = [(piece, piece + 1) for piece in range(39)]
        self.assertIs(is_claims(FORTY, ([], [], chain)), True)
        self.assertIs(is_claims(FORTY, ([], [], chain + [(39, 0)])), False)
        self.assertIs(is_claims(FORTY, ([], [], sorted(chain + [(39, 38)]))), False)
        every = [(piece, other) for piece in range(40) for other in range(piece + 1, 40)]
        self.assertIs(is_claims(FORTY, (list(range(40)), [], every)), True)


class Fits(unittest.TestCase):
    def test_the_example(self):
        claims = ([0], [1], [(2, 0)])
        self.assertEqual([fits(PLAN, claims, [2, 0]), must_ahead(PLAN, claims, 2, 4), sure_in(PLAN, claims, 0),
                          sure_in(PLAN, claims, 1)], [True, True, [0, 2], None])

    def test_each_claim_counts(self):
        for claims, fall, wanted in (
                (NONE, [], True), (([0], [], []), [], False), (([0], [], []), [1, 0], True), (([], [0], []), [], True),
                (([], [0], []), [1, 0], False), (([], [], [(0, 1)]), [0, 1], True), (([], [], [(0, 1)]), [1, 0], False),
                (([], [], [(0, 1)]), [0], False), (([], [], [(0, 1)]), [1], False), (([], [], [(0, 1)]), [], False),
                (([], [], [(0, 1)]), [0, 2, 1], True), (([], [], [(0, 4)]), [0, 1, 2, 3], False),
                (([], [], [(0, 4)]), [3, 2, 1, 0, 4], True), (([0, 1], [], []), [0], False)):
            self.assertIs(fits(PLAN, claims, fall), wanted, (claims, fall))

    def test_all_falls_of_small_plans(self):
        chance = random.Random(15)
        for _ in range(150):
            plan = any_plan(chance, Plan, 4)
            claims = any_claims(chance, plan)
            for fall in all_falls(plan):
                self.assertIs(fits(plan, claims, fall), is_fit(claims, fall), (claims, fall))

    def test_errors(self):
        for claims in WRONG_CLAIMS + ODD_THINGS:
            for fall in ([], [0], [9], None, claims):
                with self.assertRaises(InvalidClaims, msg=repr(claims)[:60]):
                    fits(PLAN, claims, fall)
        for fall in ODD_THINGS + [None, (), (0,), [0, 0], [4], [5], [-1], [True], [0, False], 0, {}]:
            for claims in (NONE, ([0], [1], [])):
                with self.assertRaises(InvalidFall):
                    fits(PLAN, claims, fall)


class MustAhead(unittest.TestCase):
    def test_lower_epochs(self):
        for piece in range(6):
            for other in range(6):
                self.assertIs(must_ahead(THREE, NONE, piece, other), piece // 2 < other // 2)

    def test_tuples_and_chains(self):
        claims = ([], [], [(0, 2), (2, 3), (3, 1)])
        wanted = {(0, 2), (0, 3), (0, 1), (2, 3), (2, 1), (3, 1), (0, 4), (1, 4), (2, 4), (3, 4)}
        for piece in range(5):
            for other in range(5):
                self.assertIs(must_ahead(PLAN, claims, piece, other), (piece, other) in wanted)

    def test_what_words_say(self):
        chance = random.Random(16)
        for _ in range(150):
            plan = any_plan(chance, Plan, 7)
            claims = any_claims(chance, plan)
            pairs = ahead_of(plan, claims)
            for piece in range(len(plan.pieces)):
                for other in range(len(plan.pieces)):
                    self.assertIs(must_ahead(plan, claims, piece, other), (piece, other) in pairs)

    def test_forty_pieces(self):
        chain = ([], [], [(piece - 1, piece) for piece in range(39, 0, -1)][::-1])
        self.assertIs(must_ahead(FORTY, chain, 0, 39), True)
        self.assertIs(must_ahead(FORTY, chain, 39, 0), False)
        self.assertIs(must_ahead(FORTY, NONE, 0, 39), False)
        back = ([], [], [(piece, piece - 1) for piece in range(1, 40)])
        self.assertIs(must_ahead(FORTY, back, 39, 0), True)
        self.assertIs(must_ahead(FORTY, back, 0, 39), False)
        self.assertIs(must_ahead(FORTY_EPOCHS, NONE, 0, 19), True)

    def test_errors(self):
        for claims in WRONG_CLAIMS + ODD_THINGS:
            for piece, other in ((0, 1), (9, 0), (0, 9), (claims, claims)):
                with self.assertRaises(InvalidClaims, msg=repr(claims)[:60]):
                    must_ahead(PLAN, claims, piece, other)
        for piece in ODD_THINGS + [None, -1, 5, True, False, "0", (0,), [0]]:
            for pair in ((piece, 0), (0, piece), (piece, piece)):
                with self.assertRaises(UnknownPiece):
                    must_ahead(PLAN, NONE, *pair)


class SureIn(unittest.TestCase):
    def test_lower_epochs_and_claims(self):
        self.assertEqual([sure_in(THREE, NONE, epoch) for epoch in range(4)],
                         [[], [0, 1], [0, 1, 2, 3], [0, 1, 2, 3]])
        self.assertEqual(sure_in(THREE, ([3], [], []), 1), [0, 1, 3])
        self.assertEqual(sure_in(THREE, ([1], [0], []), 0), [1])
        self.assertEqual(sure_in(THREE, ([], [], [(3, 2)]), 1), [0, 1, 2, 3])
        self.assertEqual(sure_in(THREE, ([1], [], [(0, 3)]), 1), [0, 1, 3])

    def test_none_where_one_is_of_a_higher_epoch(self):
        self.assertEqual([sure_in(THREE, ([2], [], []), epoch) for epoch in range(4)],
                         [None, [0, 1, 2], [0, 1, 2, 3], [0, 1, 2, 3]])
        self.assertEqual([sure_in(THREE, ([], [], [(0, 5)]), epoch) for epoch in range(4)],
                         [None, None, None, [0, 1, 2, 3, 5]])

    def test_none_where_one_is_claimed_gone(self):
        self.assertEqual([sure_in(THREE, ([], [2], []), epoch) for epoch in range(4)], [[], [0, 1], None, None])
        self.assertEqual([sure_in(THREE, ([0], [1], []), epoch) for epoch in range(4)], [[0], None, None, None])
        self.assertEqual([sure_in(THREE, ([5], [0], []), epoch) for epoch in range(4)], [None] * 4)

    def test_they_are_in_every_such_fall(self):
        chance = random.Random(17)
        for _ in range(200):
            plan = any_plan(chance, Plan, 4)
            claims, epochs = any_claims(chance, plan), epochs_of(plan)
            for epoch in range(plan.epochs):
                sure = sorted({p for p, at in enumerate(epochs) if at < epoch} | there_of(claims))
                if any(epochs[p] > epoch or p in claims[1] for p in sure):
                    sure = None
                self.assertEqual(sure_in(plan, claims, epoch), sure)
                inside = [fall for fall in all_falls(plan) if is_fit(claims, fall)
                          and all(epochs[p] <= epoch for p in fall)
                          and all(p in fall for p, at in enumerate(epochs) if at < epoch)]
                self.assertEqual(sure is None, not inside)
                if inside:
                    self.assertEqual(sure, [p for p in range(len(epochs)) if all(p in fall for fall in inside)])

    def test_forty_epochs(self):
        self.assertEqual(sure_in(FORTY_EPOCHS, NONE, 19), list(range(19)))
        self.assertEqual(sure_in(FORTY, (list(range(40)), [], []), 0), list(range(40)))

    def test_errors(self):
        for claims in WRONG_CLAIMS + ODD_THINGS:
            for epoch in (0, 9, None, claims):
                with self.assertRaises(InvalidClaims, msg=repr(claims)[:60]):
                    sure_in(PLAN, claims, epoch)
        for epoch in ODD_THINGS + [None, -1, 2, 3, True, False, "0", (0,), [0]]:
            for claims in (NONE, ([4], [0], [])):
                with self.assertRaises(UnknownEpoch):
                    sure_in(PLAN, claims, epoch)


class Arguments(unittest.TestCase):
    def test_they_stay_and_the_result_is_new(self):
        claims = ([0], [1], [(0, 2), (2, 3)])
        is_claims(PLAN, claims)
        fits(PLAN, claims, [0, 2, 3])
        must_ahead(PLAN, claims, 0, 3)
        sure_in(PLAN, claims, 0).append(9)
        self.assertEqual(claims, ([0], [1], [(0, 2), (2, 3)]))
        sure_in(PLAN, ([0], [], []), 0).clear()
        claims = ([0, 1], [], [])
        result = sure_in(PLAN, claims, 0)
        result.append(2)
        self.assertEqual([claims, sure_in(PLAN, claims, 0)], [([0, 1], [], []), [0, 1]])

    def test_by_name(self):
        self.assertIs(is_claims(thing=NONE, plan=PLAN), True)
        self.assertIs(fits(fall=[0], claims=([0], [], []), plan=PLAN), True)
        self.assertIs(must_ahead(other=4, piece=0, claims=NONE, plan=PLAN), True)
        self.assertIs(must_ahead(other=0, piece=4, claims=NONE, plan=PLAN), False)
        self.assertEqual(sure_in(epoch=1, claims=NONE, plan=PLAN), [0, 1, 2, 3])


if __name__ == "__main__":
    unittest.main()
