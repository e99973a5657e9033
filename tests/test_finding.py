"""Finding a fall, or a paper that there is none ([2], [7], [13])."""

import random
import unittest

from afterfall.claims import fits
from afterfall.errors import InvalidClaims, InvalidPattern
from afterfall.falls import is_fall, is_found
from afterfall.finding import find, is_shut, shut
from afterfall.plans import Plan
from tests.oracle import (NONE, ODD_THINGS, any_claims, any_pattern, any_plan, is_paper, such_falls)
from tests.test_claims import WRONG_CLAIMS

EXAMPLE = Plan((0, 0), 1, [(0, (1, 1)), None, (0, (2, 2))])
LINE = Plan((0, 0), 1, [(0, (1, 1)), (0, (2, 2)), None, (0, (3,))])
WRONG_PATTERNS = [None, 0, [], (), "", {2: (0,)}, {-1: (0,)}, {0: ()}, {0: (1, 0)}, {0: (1, 1)}, {0: (8,)}, {0: [0]},
                  {True: (0,)}, {0: (True,)}, {"0": (0,)}, {0: 0}, {0: (0,), 5: (1,)}, {(0,): (0,)}]


def changed(chance, plan, paper):
    """A paper with a few parts changed, left out or put in twice."""
    paper = [(word, dict(told) if isinstance(told, dict) else told) for word, told in paper]
    for _ in range(chance.randint(1, 2)):
        at = chance.randrange(len(paper))
        word, told = paper[at]
        which = chance.random()
        if which < 0.1:
            paper.insert(at, chance.choice(paper))
        elif which < 0.2:
            del paper[at]
        elif which < 0.3:
            other = chance.randrange(len(paper))
            paper[at], paper[other] = paper[other], paper[at]
        elif which < 0.5 or not isinstance(told, dict):
            paper[at] = chance.choice((("there", chance.randint(0, 5)), ("gone", chance.randint(0, 5)),
                                       ("stuck", {chance.randint(-1, 4): chance.randint(0, 3) for _ in range(3)})))
        elif which < 0.7 and told:
            del told[chance.choice(list(told))]
        else:
            told[chance.randint(-1, len(plan.pieces))] = chance.randint(0, len(plan.base) - 1)
        if not paper:
            return paper
    return paper


class Judging(unittest.TestCase):
    def right(self, plan, pattern, claims):
        """Check a fall that is found, or a paper that is not."""
        fall, paper = find(plan, pattern, claims), shut(plan, pattern, claims)
        self.assertTrue((fall is None) != (paper is None))
        if fall is None:
            self.assertIs(is_shut(plan, pattern, claims, paper), True)
            self.assertTrue(is_paper(plan, pattern, claims, paper), (pattern, claims, paper))
        else:
            self.assertIs(is_fall(plan, fall), True)
            self.assertIs(fits(plan, claims, fall), True)
            self.assertIs(is_found(plan, fall, pattern), True)
        return fall


class Finding(Judging):
    def test_the_examples(self):
        self.assertEqual(find(EXAMPLE, {0: (0,), 1: (1,)}, NONE), [1])
        self.assertIsNone(find(EXAMPLE, {0: (0,), 1: (2,)}, NONE))
        self.assertIsNone(shut(EXAMPLE, {0: (0,), 1: (1,)}, NONE))
        self.assertIs(is_shut(EXAMPLE, {0: (0,), 1: (2,)}, NONE, shut(EXAMPLE, {0: (0,), 1: (2,)}, NONE)), True)

    def test_the_base_is_found_without_pieces(self):
        self.assertEqual(find(Plan((3,), 1, []), {0: (3,)}, NONE), [])
        self.assertEqual(find(Plan((3,), 1, [None, None]), {}, NONE), [])
        self.assertEqual(shut(Plan((3,), 1, [None]), {0: (4,)}, NONE), [("stuck", {-1: 0})] * 2)
        self.assertEqual(shut(Plan((3,), 1, []), {0: (4,)}, NONE), [("stuck", {-1: 0})])

    def test_the_order_matters(self):
        plan = Plan((0, 0), 2, [(0, (1, 1)), (0, (2, 2)), (1, (3,))])
        for pattern, wanted in (({0: (1,), 1: (3,)}, True), ({0: (1,), 1: (2,)}, False), ({0: (0,), 1: (1,)}, False),
                                ({0: (0,), 1: (3,)}, True), ({0: (2,), 1: (0,)}, False), ({0: (1, 2), 1: (1,)}, True)):
            self.assertEqual(self.right(plan, pattern, NONE) is not None, wanted)
        everything = ([0, 1, 2], [], [])
        self.assertIsNotNone(self.right(plan, {0: (1,), 1: (1,)}, everything))
        self.assertIsNone(self.right(plan, {0: (1,), 1: (2,)}, everything))
        self.assertIsNone(self.right(plan, {0: (1,)}, ([], [], [(0, 1)])))
        self.assertIsNotNone(self.right(plan, {0: (2,), 1: (3,)}, ([], [], [(0, 1), (1, 2)])))
        self.assertIsNone(self.right(plan, {0: (2,), 1: (1,)}, ([], [], [(0, 1)])))

    def test_claims_that_no_fall_fits(self):
        plan = Plan((0,), 1, [(0, (1,)), None, (0, (2,))])
        claims = ([1], [0], [])
        self.assertIsNone(self.right(plan, {}, claims))
        self.assertEqual(shut(plan, {}, claims), [("there", 1), ("gone", 0)])

    def test_what_all_falls_of_small_plans_say(self):
        chance = random.Random(18)
        seen = {True: 0, False: 0}
        for _ in range(1200):
            plan = any_plan(chance, Plan)
            pattern, claims = any_pattern(chance, len(plan.base)), any_claims(chance, plan)
            such = such_falls(plan, pattern, claims)
            fall = self.right(plan, pattern, claims)
            seen[fall is None] += 1
            self.assertEqual(fall is None, not such)
            if such:
                self.assertIn(fall, such)
        self.assertTrue(min(seen.values()) > 300)

    def test_changed_papers_are_judged_as_the_conditions_say(self):
        chance = random.Random(19)
        seen = {True: 0, False: 0}
        for _ in range(900):
            plan = any_plan(chance, Plan)
            pattern, claims = any_pattern(chance, len(plan.base)), any_claims(chance, plan)
            paper = shut(plan, pattern, claims)
            if paper is None:
                paper = [("stuck", {piece: chance.randrange(len(plan.base)) for piece in range(-1, len(plan.pieces))})
                         for _ in range(plan.epochs)]
            for _ in range(8):
                thing = changed(chance, plan, paper)
                wanted = is_paper(plan, pattern, claims, thing)
                seen[wanted] += 1
                self.assertIs(is_shut(plan, pattern, claims, thing), wanted, (plan.steps, pattern, claims, thing))
        self.assertTrue(seen[True] > 200 and seen[False] > 2000)

    def test_no_paper_where_there_is_a_fall(self):
        chance = random.Random(20)
        for _ in range(400):
            plan = any_plan(chance, Plan, 3)
            pattern, claims = any_pattern(chance, len(plan.base)), any_claims(chance, plan)
            if such_falls(plan, pattern, claims):
                for _ in range(20):
                    thing = [chance.choice((("there", chance.randint(0, 3)), ("gone", chance.randint(0, 3)), ("stuck", {
                        piece: chance.randrange(len(plan.base)) for piece in range(-1, len(plan.pieces))
                        if chance.random() < 0.6}))) for _ in range(plan.epochs)]
                    self.assertIs(is_shut(plan, pattern, claims, thing), False)


class LargePlans(Judging):
    def test_forty_pieces_in_one_epoch(self):
        plan = Plan((0,) * 4, 24, [(step % 4, (step % 7 + 1,) * (4 - step % 4)) for step in range(40)])
        everything = (list(range(40)), [], [])
        for claims in (NONE, everything, ([], list(range(0, 40, 3)), [])):
            for last in range(40):
                self.right(plan, {step: (last % 7 + 1,) for step in range(last % 4, 4)}, claims)
        self.assertIsNone(self.right(plan, {0: (0,)}, everything))
        self.assertIsNone(self.right(plan, {0: (1,), 1: (0,)}, NONE))

    def test_forty_pieces_whose_order_is_forced(self):
        # A piece ruins the cell of the one ahead of it and mends its own; the last mender is out.
        steps = [(cell, (1, 2)) for cell in range(23)] + [(cell, (1,)) for cell in range(8, 24)]
        plan = Plan((0,) * 24, 24, steps + [(0, (2,))])
        pattern = {cell: (1,) for cell in range(24)}
        everything = (list(range(40)), [], [])
        fall = self.right(plan, pattern, everything)
        self.assertIsNotNone(fall)
        self.assertIsNone(self.right(plan, pattern, ([39], list(range(23, 39)), [])))
        self.assertIsNone(self.right(plan, pattern, ([], [], [(0, 39)])))
        self.assertIsNone(self.right(plan, pattern, ([], [], [(piece, piece + 1) for piece in range(39)])))

    def test_forty_pieces_in_twenty_and_in_forty_epochs(self):
        steps = [None if step % 2 else (0, (step // 2 % 7 + 1,) * 2) for step in range(40)]
        plan = Plan((0, 0), 1, steps)
        self.assertEqual([len(plan.pieces), plan.epochs], [40, 21])
        for one in range(8):
            for two in range(8):
                fall = self.right(plan, {0: (one,), 1: (two,)}, NONE)
                self.assertEqual(fall is not None, abs(one - two) <= 1 or {one, two} == {1, 7}, (one, two))
        self.assertIsNone(self.right(plan, {0: (3,)}, ([38], [], [])))
        plan = Plan((0,) * 24, 1, [(0, (1,) * 24), (0, (2,) * 16)] + [None] * 38)
        self.assertEqual([len(plan.pieces), plan.epochs], [40, 39])
        self.assertIsNotNone(self.right(plan, {cell: (1,) for cell in range(24)}, (list(range(40)), [], [])))
        self.assertIsNone(self.right(plan, {16: (2,)}, NONE))
        plan = Plan((0,), 1, [None] * 39 + [(0, (1,))])
        self.assertEqual(self.right(plan, {0: (1,)}, NONE), [0])
        self.assertEqual(len(shut(plan, {0: (2,)}, NONE)), 40)

    def test_forty_pieces_by_chance(self):
        chance = random.Random(21)
        seen = {True: 0, False: 0}
        for _ in range(150):
            cells = chance.randint(2, 24)
            plan = Plan((0,) * cells, 24, [])
            while len(plan.steps) < 40 and len(plan.pieces) < 40:
                first = chance.randrange(cells)
                many = chance.randint(1, min(cells - first, 6))
                write = (first, tuple(chance.randrange(3) for _ in range(many)))
                plan = plan.with_step(len(plan.steps), None if chance.random() < 0.1 else write)
            pattern = {cell: (chance.randrange(3),) for cell in range(cells) if chance.random() < 0.3}
            numbers = range(len(plan.pieces))
            there = [piece for piece in numbers if chance.random() < 0.2]
            gone = [piece for piece in numbers if piece not in there and chance.random() < 0.02]
            seen[self.right(plan, pattern, (there, gone, [])) is None] += 1
        self.assertTrue(min(seen.values()) > 20, seen)


class Entries(unittest.TestCase):
    """Each condition of an entry, on both of its sides."""

    def judge(self, plan, pattern, claims, thing, wanted):
        self.assertIs(is_shut(plan, pattern, claims, thing), wanted, thing)
        self.assertIs(is_paper(plan, pattern, claims, thing), wanted, thing)

    def test_the_example(self):
        self.judge(EXAMPLE, {0: (0,), 1: (2,)}, NONE, [("stuck", {-1: 1, 1: 1}), ("stuck", {0: 0, 2: 0})], True)

    def test_one_entry_for_each_epoch_in_order(self):
        pattern = {0: (0,), 1: (2,)}
        one, two = ("stuck", {-1: 1, 1: 1}), ("stuck", {0: 0, 2: 0})
        for thing in ([one], [two], [], [one, two, two], [one, one, two], [two, one], [two, two], (one, two),
                      [(one, two)], [[one, two]], {0: one, 1: two}, None, 0):
            self.judge(EXAMPLE, pattern, NONE, thing, False)
        # The spoils of a lower epoch do for a higher one only where its own pieces do not mend them.
        self.judge(EXAMPLE, pattern, NONE, [one, one], False)

    def test_the_form_of_an_entry(self):
        plan, pattern = Plan((0,), 1, []), {0: (1,)}
        self.judge(plan, pattern, NONE, [("stuck", {-1: 0})], True)
        for entry in (["stuck", {-1: 0}], ("stuck",), ("stuck", {-1: 0}, 0), ("Stuck", {-1: 0}), ("", {-1: 0}), {},
                      ("there", {-1: 0}), ("gone", {-1: 0}), (None, {-1: 0}), ("stuck", [(-1, 0)]), ("stuck", -1), None,
                      ("stuck", None), ("stuck", {}), ({-1: 0}, "stuck"), "stuck", ("stuck", ((-1, 0),)), (), 0,
                      (("stuck",), {-1: 0}), ("there", 0), ("gone", 0), ("there", -1), ("gone", -1)):
            self.judge(plan, pattern, NONE, [entry], False)

    def test_there_entries(self):
        plan = Plan((0,), 1, [(0, (1,)), None, (0, (2,)), None, (0, (3,)), None])
        last = ("stuck", {2: 0})
        claims = ([1, 2], [], [])
        for first, second, wanted in ((1, 2, True), (2, 2, True), (0, 2, False), (1, 1, False), (1, 0, False),
                                      (1, 3, False), (-1, 2, False), (1, -1, False), (True, 2, False), (3, 2, False)):
            thing = [("there", first), ("there", second), last, last]
            self.judge(plan, {0: (1,)}, claims, thing, wanted)
        for first, second, wanted in ((("there", 1), ("stuck", {1: 0}), True), (("there", 1), ("there", 2), False),
                                      (("there", 2), ("stuck", {1: 0}), False), (("there", 1), ("there", 1), False)):
            thing = [first, second, ("stuck", {1: 0, 2: 0}), last]
            self.judge(plan, {0: (1,)}, ([1], [], []), thing, wanted)
            self.judge(plan, {0: (1,)}, ([], [], [(0, 1)]), thing, wanted)
        # A piece of a tuple counts as claimed there, too.
        for claims in (([], [], [(0, 2)]), ([], [], [(1, 2)]), ([1], [], [(0, 2)])):
            self.judge(plan, {0: (1,)}, claims, [("there", 2), ("there", 2), last, last], True)

    def test_gone_entries(self):
        plan = Plan((0,), 1, [(0, (1,)), None, (0, (2,)), None, (0, (3,))])
        first, claims = ("stuck", {-1: 0}), ([], [0, 1], [])
        for second, third, wanted in ((0, 0, True), (0, 1, True), (1, 0, False), (0, 2, False), (2, 0, False),
                                      (False, 0, False), (0, True, False), (0, -1, False), (0, 3, False)):
            self.judge(plan, {0: (7,)}, claims, [first, ("gone", second), ("gone", third)], wanted)
        self.judge(plan, {0: (7,)}, ([], [1], []), [("stuck", {-1: 0, 0: 0}), ("gone", 0), ("gone", 1)], False)
        self.judge(plan, {0: (7,)}, ([], [1], []), [("stuck", {-1: 0, 0: 0}), ("stuck", {0: 0}), ("gone", 1)], True)
        self.judge(plan, {0: (7,)}, ([], [2], []), [first, ("gone", 2), ("gone", 2)], False)
        self.judge(plan, {}, ([2], [0], []), [("there", 2), ("there", 2), ("gone", 0)], True)
        self.judge(plan, {}, ([2], [0], []), [("gone", 0), ("there", 2), ("gone", 0)], False)
        for word in ("Gone", "lost", "", "there", "stuck", None, 0, ("gone",), True):
            self.judge(plan, {}, ([2], [0], []), [("there", 2), ("there", 2), (word, 0)], False)
            self.judge(plan, {}, ([2], [0], []), [(word, 2), ("there", 2), ("gone", 0)], word == "there")
        self.judge(plan, {}, ([2], [0], []), [("there", 2), ("gone", 0), ("there", 2)], False)

    def test_spoils_are_those_of_cells_of_the_pattern(self):
        plan = Plan((0, 0), 2, [(0, (1, 1))])
        claims = ([0], [], [])
        self.judge(plan, {0: (0,)}, claims, [("stuck", {0: 0})], True)
        for cell in (1, 2, -1, True, False, None, "0", (0,), 10 ** 39, -2, 24):
            self.judge(plan, {0: (0,)}, claims, [("stuck", {0: cell})], False)
        self.judge(plan, {}, claims, [("stuck", {0: 0})], False)
        self.judge(plan, {0: (0,), 1: (0,)}, claims, [("stuck", {0: 1})], True)
        self.judge(plan, {0: (0, 1), 1: (0,)}, claims, [("stuck", {0: 0})], False)

    def test_a_piece_writes_a_worth_that_is_not_let_into_its_cell(self):
        plan = Plan((0, 0, 0), 3, [(0, (1, 2)), (0, (3,))])
        claims = ([0, 1], [], [])
        pattern = {0: (1,), 1: (0,), 2: (1,)}
        self.judge(plan, pattern, claims, [("stuck", {0: 1})], True)
        self.judge(plan, pattern, claims, [("stuck", {0: 0, 1: 0})], False)
        self.judge(plan, pattern, claims, [("stuck", {0: 1, 1: 0})], True)
        self.judge(plan, pattern, claims, [("stuck", {0: 2})], False)
        self.judge(plan, pattern, claims, [("stuck", {1: 1})], False)
        self.judge(plan, pattern, claims, [("stuck", {1: 0})], False)

    def test_the_base_holds_a_worth_that_is_not_let_in_its_cell(self):
        plan = Plan((0, 5, 0), 3, [(0, (1,))])
        for cell, wanted in ((0, False), (1, True), (2, False), (3, False), (-1, False), (True, False)):
            self.judge(plan, {0: (1,), 1: (4,), 2: (0,)}, NONE, [("stuck", {-1: cell})], wanted)
        self.judge(plan, {0: (2,), 1: (5,)}, NONE, [("stuck", {-1: 0})], False)
        self.judge(plan, {0: (2,), 1: (5,)}, NONE, [("stuck", {-1: 0, 0: 0})], True)

    def test_keys_are_pieces_of_this_epoch_or_lower_ones_that_are_not_claimed_gone(self):
        plan = Plan((0, 0), 1, [(0, (1,)), (0, (1,)), None, (0, (1,))])
        spoils = {-1: 0, 0: 0, 1: 0}
        higher, lower = {-1: 0, 0: 0, 1: 0, 2: 0}, {0: 0, 1: 0, 2: 0}
        self.judge(plan, {0: (2,)}, NONE, [("stuck", spoils), ("stuck", lower)], True)
        self.judge(plan, {0: (2,)}, NONE, [("stuck", spoils), ("stuck", higher)], True)
        self.judge(plan, {0: (2,)}, NONE, [("stuck", higher), ("stuck", lower)], False)
        claims = ([], [1], [])
        self.judge(plan, {0: (2,)}, claims, [("stuck", {-1: 0, 0: 0}), ("gone", 1)], True)
        self.judge(plan, {0: (2,)}, claims, [("stuck", spoils), ("gone", 1)], False)
        self.judge(plan, {0: (2,)}, claims, [("stuck", {-1: 0, 0: 0}), ("stuck", {0: 0, 2: 0})], True)
        self.judge(plan, {0: (2,)}, claims, [("stuck", {-1: 0, 0: 0}), ("stuck", lower)], False)
        for key in (3, -2, 10 ** 39, "0", "", (), (0,), (0, ("a", True))):
            self.judge(plan, {0: (2,)}, NONE, [("stuck", {**spoils, key: 0}), ("stuck", lower)], False)

    def test_a_bool_is_no_key(self):
        plan = Plan((0,), 1, [(0, (1,)), (0, (2,))])
        self.judge(plan, {0: (3,)}, NONE, [("stuck", {-1: 0, 0: 0, 1: 0})], True)
        self.judge(plan, {0: (3,)}, NONE, [("stuck", {-1: 0, 0: 0, True: 0})], False)
        self.judge(plan, {0: (3,)}, NONE, [("stuck", {-1: 0, False: 0, 1: 0})], False)
        self.judge(plan, {0: (3,)}, NONE, [("stuck", {-1: 0, 0: False, 1: 0})], False)

    def test_each_other_piece_that_writes_into_the_cell_is_in(self):
        plan = Plan((0, 0), 1, [(0, (1, 1)), (0, (2, 2))])
        self.judge(plan, {0: (3,)}, NONE, [("stuck", {-1: 0, 0: 0, 2: 0})], True)
        self.judge(plan, {0: (3,)}, NONE, [("stuck", {-1: 0, 0: 0})], False)
        self.judge(plan, {0: (3,)}, NONE, [("stuck", {-1: 0, 2: 0})], False)
        self.judge(plan, {0: (3,)}, NONE, [("stuck", {-1: 0})], False)
        self.judge(plan, {0: (3,)}, ([], [2], []), [("stuck", {-1: 0, 0: 0})], True)
        # One that writes into another cell of the pattern need not be in.
        self.judge(plan, {0: (3,), 1: (2,)}, NONE, [("stuck", {-1: 0, 0: 0, 2: 0})], True)
        self.judge(plan, {0: (3,), 1: (3,)}, NONE, [("stuck", {-1: 0, 0: 0, 2: 0, 1: 1})], False)
        self.judge(plan, {0: (3,), 1: (3,)}, NONE, [("stuck", {-1: 0, 0: 0, 2: 0, 1: 1, 3: 1})], True)

    def test_or_it_must_come_ahead_of_the_piece(self):
        plan = Plan((0,), 1, [(0, (1,)), (0, (2,)), (0, (1,))])
        claims = ([2], [], [(0, 1)])
        self.judge(plan, {0: (1,)}, ([], [2], [(0, 1)]), [("stuck", {1: 0})], True)
        self.judge(plan, {0: (1,)}, ([1], [2], []), [("stuck", {1: 0})], False)
        self.judge(plan, {0: (1,)}, ([], [2], [(1, 0)]), [("stuck", {1: 0})], False)
        self.judge(plan, {0: (1,)}, claims, [("stuck", {1: 0})], False)
        self.judge(plan, {0: (1,)}, ([], [], [(0, 2), (2, 1)]), [("stuck", {1: 0})], True)
        # Also one that perhaps did not come, where the others are of lower epochs.
        plan = Plan((0,), 1, [(0, (1,)), None, (0, (2,))])
        self.judge(plan, {0: (1,)}, ([1], [], []), [("there", 1), ("stuck", {1: 0})], True)
        plan = Plan((3, 0), 1, [(0, (1,)), None, (0, (2,)), (1, (7,))])
        # The piece 1 spoils the cell 0, behind the piece 0; the piece 2 is sure, and in another cell.
        claims = ([2], [], [])
        self.judge(plan, {0: (1,), 1: (0,)}, claims, [("there", 2), ("stuck", {1: 0, 2: 1})], True)
        plan = Plan((0, 0), 1, [(0, (1,)), (0, (2,)), (1, (3,))])
        # Not where the order is the other way round, nor where it is that of the piece and the base.
        self.judge(plan, {0: (1,), 1: (0,)}, ([2], [], []), [("stuck", {1: 0, 2: 1})], False)
        self.judge(plan, {0: (3,), 1: (3,)}, ([], [], [(0, 1)]), [("stuck", {-1: 0, 1: 0})], True)
        self.judge(plan, {0: (1,)}, ([], [], [(1, 0)]), [("stuck", {-1: 0, 1: 0})], False)

    def test_or_ahead_of_a_piece_of_the_dict_that_surely_came(self):
        plan = Plan((0, 0), 1, [(0, (1, 1)), (0, (2,)), (1, (2,))])
        # The piece 0 could mend the cell of the piece 2, but must come ahead of the piece 3, which spoils the cell 1.
        pattern, claims = {0: (1,), 1: (1,)}, ([2], [], [(0, 3)])
        self.judge(plan, pattern, claims, [("stuck", {2: 0, 3: 1})], False)
        self.judge(plan, pattern, ([2], [], [(1, 3)]), [("stuck", {3: 1})], True)
        self.judge(plan, pattern, ([2], [], [(0, 3), (1, 3)]), [("stuck", {2: 0, 3: 1})], True)
        self.judge(plan, pattern, ([2], [], [(0, 3), (1, 3)]), [("stuck", {2: 0})], False)
        self.judge(plan, pattern, ([2, 3], [], []), [("stuck", {2: 0, 3: 1})], False)
        # By a chain; also ahead of the base's spoil.
        self.judge(plan, pattern, ([], [], [(0, 1), (1, 3)]), [("stuck", {-1: 0, 2: 0, 3: 1})], True)
        self.judge(plan, pattern, ([], [], [(0, 3), (1, 3)]), [("stuck", {-1: 0, 2: 0, 3: 1})], True)
        self.judge(plan, pattern, ([], [], [(0, 3)]), [("stuck", {-1: 0, 2: 0, 3: 1})], False)
        self.judge(plan, pattern, ([], [], [(1, 3)]), [("stuck", {-1: 0, 2: 0})], False)

    def test_by_its_epoch_a_piece_is_ahead_only_of_one_that_surely_came(self):
        # The piece 1 is of a higher epoch than the piece 0, which could mend the base's cell 0.
        plan = Plan((0, 0), 1, [(0, (1,)), None, (1, (2,))])
        pattern = {0: (1,), 1: (0,)}
        both = [("stuck", {-1: 0}), ("stuck", {-1: 0, 1: 1})]
        self.judge(plan, pattern, ([], [0], []), [("stuck", {-1: 0}), ("gone", 0)], True)
        self.judge(plan, pattern, NONE, both, False)
        self.judge(plan, pattern, ([1], [], []), [("there", 1), ("stuck", {-1: 0, 1: 1})], True)
        self.judge(plan, pattern, ([1], [], []), [("there", 1), ("stuck", {1: 1})], True)
        self.judge(plan, pattern, NONE, [("stuck", {-1: 0}), ("stuck", {1: 1})], False)
        self.judge(plan, pattern, ([], [1], []), [("stuck", {-1: 0}), ("stuck", {-1: 0})], False)

    def test_the_base_or_a_piece_that_surely_came_is_in(self):
        plan = Plan((1, 1), 1, [(0, (2, 2)), None, (0, (3, 3))])
        pattern = {0: (1, 4), 1: (4,)}
        first = ("stuck", {-1: 1, 1: 1})
        self.judge(plan, pattern, NONE, [first, ("stuck", {0: 0, 2: 0})], True)
        self.judge(plan, pattern, NONE, [first, ("stuck", {1: 1, 3: 1})], True)
        self.judge(plan, pattern, NONE, [first, ("stuck", {2: 0})], False)
        self.judge(plan, pattern, NONE, [first, ("stuck", {2: 0, 3: 1})], False)
        self.judge(plan, pattern, NONE, [first, ("stuck", {})], False)
        self.judge(plan, pattern, NONE, [("stuck", {1: 1}), ("stuck", {0: 0, 2: 0})], False)
        self.judge(plan, pattern, NONE, [("stuck", {0: 0}), ("stuck", {0: 0, 2: 0})], False)
        there = ("there", 2)
        self.judge(plan, pattern, ([2], [], []), [there, ("stuck", {2: 0})], True)
        self.judge(plan, pattern, ([3], [], []), [("there", 3), ("stuck", {2: 0})], False)
        self.judge(plan, pattern, ([], [], [(2, 3)]), [there, ("stuck", {2: 0})], True)
        self.judge(plan, pattern, ([0], [], []), [("stuck", {0: 0}), ("stuck", {0: 0, 2: 0})], True)
        self.judge(plan, pattern, ([1], [], []), [("stuck", {0: 0}), ("stuck", {0: 0, 2: 0})], False)

    def test_the_base_with_pieces_of_lower_epochs(self):
        plan = Plan((0, 0), 1, [(0, (1,)), None, (1, (2,))])
        self.judge(plan, {1: (1,)}, NONE, [("stuck", {-1: 1}), ("stuck", {-1: 1, 1: 1})], True)
        self.judge(plan, {0: (2,)}, NONE, [("stuck", {-1: 0, 0: 0}), ("stuck", {-1: 0})], False)
        self.judge(plan, {0: (2,)}, NONE, [("stuck", {-1: 0, 0: 0}), ("stuck", {-1: 0, 0: 0})], True)

    def test_the_order_of_the_keys_means_nothing(self):
        plan = Plan((0,), 1, [(0, (1,))] * 5)
        claims = ([1, 3], [], [(2, 4)])
        chance = random.Random(22)
        for spoils in ({-1: 0, 0: 0, 1: 0, 2: 0, 3: 0, 4: 0}, {1: 0, 3: 0, 4: 0, 0: 0}, {1: 0, 2: 0, 4: 0}, {0: 0}):
            wanted = is_paper(plan, {0: (2,)}, claims, [("stuck", spoils)])
            for _ in range(10):
                keys = chance.sample(list(spoils), len(spoils))
                self.judge(plan, {0: (2,)}, claims, [("stuck", {key: 0 for key in keys})], wanted)

    def test_any_object_is_judged(self):
        claims = ([1], [2], [])
        for thing in ODD_THINGS:
            for plan, pattern in ((EXAMPLE, {0: (0,), 1: (2,)}), (Plan((0, 0), 1, []), {0: (1,)})):
                self.judge(plan, pattern, NONE, thing, False)
            self.judge(EXAMPLE, {0: (0,), 1: (2,)}, claims, [thing, thing], False)
            self.judge(EXAMPLE, {0: (0,), 1: (2,)}, claims, [("stuck", thing), ("stuck", thing)], False)
            self.judge(EXAMPLE, {0: (0,), 1: (2,)}, claims, [("there", thing), ("gone", thing)], False)
            self.judge(EXAMPLE, {0: (0,), 1: (2,)}, claims, [(thing, {-1: 1, 1: 1}), (thing, {0: 0, 2: 0})], False)
            self.judge(EXAMPLE, {0: (0,), 1: (2,)}, NONE, [("stuck", {-1: thing, 1: 1}), ("stuck", {0: 0, 2: 0})], False)


class Rest(unittest.TestCase):
    def test_errors(self):
        calls = (find, shut, lambda plan, pattern, claims: is_shut(plan, pattern, claims, []),
                 lambda plan, pattern, claims: is_shut(plan, pattern, claims, None))
        for call in calls:
            for pattern in WRONG_PATTERNS + ODD_THINGS:
                for claims in (NONE, None, pattern, ([9], [], [])):
                    with self.assertRaises(InvalidPattern):
                        call(LINE, pattern, claims)
            for claims in WRONG_CLAIMS + ODD_THINGS:
                for pattern in ({}, {0: (7,)}):
                    with self.assertRaises(InvalidClaims):
                        call(LINE, pattern, claims)

    def test_the_error_comes_ahead_of_what_is_judged(self):
        for thing in ODD_THINGS:
            with self.assertRaises(InvalidPattern):
                is_shut(LINE, thing, thing, thing)
            with self.assertRaises(InvalidClaims):
                is_shut(LINE, {}, thing, thing)

    def test_dicts_in_papers_ascend(self):
        plan = Plan((0, 0), 1, [(1, (1,)), (0, (2,)), (0, (3, 3)), (0, (1,))])
        for claims in (NONE, ([0, 1, 2], [], []), ([], [], [(3, 1), (4, 2)])):
            (word, spoils), = shut(plan, {0: (0, 7), 1: (7,)}, claims)
            self.assertEqual(word, "stuck")
            self.assertEqual(list(spoils), sorted(spoils))
        chance = random.Random(23)
        for _ in range(300):
            plan = any_plan(chance, Plan, 12)
            paper = shut(plan, any_pattern(chance, len(plan.base)), any_claims(chance, plan))
            for word, told in paper or []:
                if word == "stuck":
                    self.assertEqual(list(told), sorted(told))

    def test_arguments_stay(self):
        pattern, claims = {1: (2,), 0: (0,)}, ([1], [3], [(1, 2)])
        paper = [("stuck", {1: 1, -1: 1}), ("stuck", {2: 0, 0: 0})]
        find(EXAMPLE, pattern, claims)
        shut(EXAMPLE, pattern, claims)
        is_shut(EXAMPLE, pattern, claims, paper)
        self.assertEqual([list(pattern.items()), claims], [[(1, (2,)), (0, (0,))], ([1], [3], [(1, 2)])])
        self.assertEqual([list(spoils.items()) for _, spoils in paper], [[(1, 1), (-1, 1)], [(2, 0), (0, 0)]])

    def test_results_are_new(self):
        pattern, claims = {0: (0,), 1: (1,)}, ([1], [], [])
        find(EXAMPLE, pattern, claims).append(9)
        self.assertEqual(find(EXAMPLE, pattern, claims), [1])
        self.assertEqual(claims, ([1], [], []))
        plan = Plan((0,), 1, [None, None])
        paper = shut(plan, {0: (1,)}, NONE)
        paper[0][1][5] = 5
        self.assertEqual(paper[1:], [("stuck", {-1: 0})] * 2)
        self.assertEqual(shut(plan, {0: (1,)}, NONE), [("stuck", {-1: 0})] * 3)

    def test_by_name(self):
        self.assertEqual(find(claims=NONE, pattern={0: (0,), 1: (1,)}, plan=EXAMPLE), [1])
        self.assertIsNone(shut(claims=NONE, pattern={0: (0,), 1: (1,)}, plan=EXAMPLE))
        thing = [("stuck", {-1: 1, 1: 1}), ("stuck", {0: 0, 2: 0})]
        self.assertIs(is_shut(thing=thing, claims=NONE, pattern={0: (0,), 1: (2,)}, plan=EXAMPLE), True)


if __name__ == "__main__":
    unittest.main()
