"""What can be found where the first fall fits claims, and what surely came in it ([2], [34])."""

import random
import unittest

from afterfall.errors import InvalidClaims, InvalidPattern, InvalidRules, Shut, TooMany
from afterfall.firsts import after_paper, first_came, found_after, is_after_paper
from afterfall.plans import Plan
from afterfall.restarts import is_history, reached
from tests.histories import Ways, any_case, contents_in, is_after_list, is_past
from tests.oracle import (NONE, ODD_THINGS, after, all_falls, any_claims, any_pattern, any_plan, any_rules, contents_of,
                          is_fit, is_let)
from tests.test_claims import WRONG_CLAIMS
from tests.test_finding import WRONG_PATTERNS
from tests.test_ran import changed_list
from tests.test_restarts import WRONG_RULES, counted

EXAMPLE = Plan((2, 0), 1, [(0, (1,))])
RULES = [({0: (1,)}, [(1, (1,)), (0, (0,))])]
# The plan of the wrong claims of test_claims.
FIVE = Plan((0, 0), 1, [(0, (1, 1)), (0, (2, 2)), None, (0, (3,))])


class Examples(unittest.TestCase):
    def test_those_of_the_document(self):
        self.assertEqual([first_came(EXAMPLE, RULES, {1: (1,)}), first_came(EXAMPLE, RULES, {1: (0,)}),
                          found_after(EXAMPLE, RULES, {1: (1,)}, ([], [0], []))], [[0], [], None])
        self.assertEqual([is_after_paper(EXAMPLE, RULES, {1: (1,)}, ([], [0], []), [(2, 0)]),
                          after_paper(EXAMPLE, RULES, {1: (1,)}, NONE)], [True, None])

    def test_the_claims_are_about_the_first_fall_alone(self):
        history = found_after(EXAMPLE, RULES, {0: (0,)}, ([0], [], []))
        self.assertTrue(is_past(EXAMPLE, RULES, history) and len(history) > 1 and history[0] == [0])
        self.assertIsNone(found_after(EXAMPLE, RULES, {0: (2,)}, ([0], [], [])))
        self.assertEqual(after_paper(EXAMPLE, RULES, {0: (2,)}, ([0], [], [])), [(0, 0), (0, 1), (1, 0), (1, 1)])
        self.assertEqual([found_after(EXAMPLE, RULES, {0: (2,)}, ([], [0], [])), after_paper(EXAMPLE, RULES, {0: (1,)}, ([], [0], []))],
                         [[[]], [(2, 0)]])

    def test_the_order_of_the_first_fall(self):
        rules = [({0: (1,), 1: (2,)}, [(0, (7,))])]
        for ahead, wanted in (([(0, 2)], False), ([(2, 0)], True), ([(0, 2), (3, 1)], False), ([(1, 3), (2, 0)], True)):
            claims = ([], [], ahead)
            history = found_after(FIVE, rules, {0: (7,)}, claims)
            self.assertEqual(history is not None, wanted, claims)
            self.assertEqual(after_paper(FIVE, rules, {0: (7,)}, claims) is None, wanted)
            if wanted:
                self.assertTrue(is_past(FIVE, rules, history) and is_fit(claims, history[0]))
                self.assertEqual(contents_in(FIVE, rules, history)[-1][0], 7)

    def test_claims_that_no_fall_fits(self):
        # A piece of a higher epoch is there, one of a lower epoch is gone.
        claims = ([4], [0], [])
        for pattern in ({}, {0: (3,)}, {1: (7,)}):
            self.assertEqual([found_after(FIVE, [], pattern, claims), after_paper(FIVE, [], pattern, claims)], [None, []])
            self.assertIs(is_after_paper(FIVE, [], pattern, claims, []), True)
        self.assertIs(is_after_paper(FIVE, [], {1: (7,)}, claims, [(1, 1)]), True)
        self.assertIs(is_after_paper(FIVE, [], {1: (1,)}, claims, [(1, 1)]), False)

    def test_pieces_that_are_in_all_first_falls(self):
        plan = Plan((0, 0), 1, [(0, (1,)), (1, (1,)), None, (0, (2,))])
        for pattern, wanted in (({}, []), ({0: (1,)}, [0]), ({0: (2,)}, [0, 1, 2]), ({1: (1,)}, [1]), ({0: (0,)}, []),
                                ({0: (1,), 1: (1,)}, [0, 1])):
            self.assertEqual(first_came(plan, [], pattern), wanted)
        # A restart that leads from (0, 1) to (3, 1), too.
        rules = [({0: (0, 2), 1: (1,)}, [(0, (3,))])]
        self.assertEqual([first_came(plan, rules, {0: (3,)}), first_came(plan, rules, {0: (2,)}), first_came(plan, [], {0: (2,)})],
                         [[1], [0, 1, 2], [0, 1, 2]])
        with self.assertRaises(Shut):
            first_came(plan, [], {0: (3,)})
        self.assertEqual(first_came(Plan((0,), 1, []), [], {}), [])

    def test_the_conditions_one_by_one(self):
        whole = [(0, 0), (0, 1), (1, 0), (1, 1)]
        there = ([0], [], [])
        for thing, pattern, claims, wanted in (
                (whole, {0: (2,)}, there, True), (whole + [(2, 0)], {0: (2,)}, there, False), (whole, {0: (1,)}, there, False),
                (whole, {1: (7,)}, there, True), (whole, {1: (7,)}, NONE, False), (whole + [(2, 0)], {1: (7,)}, NONE, True),
                (whole[1:], {0: (2,)}, there, False), (whole[:3], {0: (2,)}, there, False), (whole[:2] + whole[3:], {0: (2,)}, there, False),
                (whole[:1] + whole[2:], {0: (2,)}, there, False), ([(2, 0)], {0: (1,)}, ([], [0], []), True),
                ([], {0: (1,)}, ([], [0], []), False), (whole + [(5, 5)], {0: (2,)}, there, True),
                (whole + [(1, 5)], {0: (2,)}, there, False), (whole + [(0, 5)], {0: (2,)}, there, False),
                (sorted(whole + [(0, 5), (1, 5)]), {0: (2,)}, there, True), (whole[::-1], {0: (2,)}, there, False),
                (whole + whole[3:], {0: (2,)}, there, False), (tuple(whole), {0: (2,)}, there, False), (None, {0: (2,)}, there, False),
                (whole + [(5, 8)], {0: (2,)}, there, False), (whole + [(5, 5, 5)], {0: (2,)}, there, False),
                (whole + [(5, True)], {0: (2,)}, there, False), (whole[:3] + [(1, True)], {0: (2,)}, there, False),
                (whole + [[5, 5]], {0: (2,)}, there, False), (dict.fromkeys(whole), {0: (2,)}, there, False), (whole, {}, there, False)):
            self.assertIs(is_after_paper(EXAMPLE, RULES, pattern, claims, thing), wanted, (thing, pattern, claims))
            self.assertIs(is_after_list(EXAMPLE, RULES, pattern, claims, thing), wanted, (thing, pattern, claims))


class AgainstAllHistories(unittest.TestCase):
    def cases(self, seed, many):
        chance = random.Random(seed)
        for turn in range(many):
            if turn % 2:
                plan, rules, _ = any_case(chance, Plan)
            else:
                plan = any_plan(chance, Plan, 4)
                rules = any_rules(chance, plan)
            yield chance, plan, rules, Ways(plan, rules)

    def test_found_after_and_papers(self):
        seen = {}
        for chance, plan, rules, ways in self.cases(97, 350):
            for _ in range(4):
                pattern, claims = any_pattern(chance, len(plan.base)), any_claims(chance, plan)
                firsts = {after(plan, fall) for fall in all_falls(plan) if is_fit(claims, fall)}
                found = any(is_let(pattern, content) for content in ways.behind(firsts))
                history, paper = found_after(plan, rules, pattern, claims), after_paper(plan, rules, pattern, claims)
                self.assertEqual([history is None, paper is None], [not found, found])
                seen[found, len(history or [])] = seen.get((found, len(history or [])), 0) + 1
                if found:
                    self.assertTrue(is_past(plan, rules, history) and is_fit(claims, history[0]))
                    self.assertTrue(is_let(pattern, contents_in(plan, rules, history)[-1]))
                else:
                    self.assertTrue(is_after_list(plan, rules, pattern, claims, paper))
                    self.assertIs(is_after_paper(plan, rules, pattern, claims, paper), True)
        self.assertTrue(min(seen.get(key, 0) for key in ((False, 0), (True, 1), (True, 2))) > 20 and len(seen) > 3, seen)

    def test_first_came(self):
        seen = {}
        for chance, plan, rules, ways in self.cases(98, 350):
            for _ in range(3):
                pattern = any_pattern(chance, len(plan.base))
                ends = {left for left in ways.falls[None] if any(is_let(pattern, content) for content in ways.behind([left]))}
                falls = [fall for left in ends for fall in ways.falls[None][left]]
                if falls:
                    wanted = [piece for piece in range(len(plan.pieces)) if all(piece in fall for fall in falls)]
                    self.assertEqual(first_came(plan, rules, pattern), wanted)
                else:
                    wanted = None
                    with self.assertRaises(Shut):
                        first_came(plan, rules, pattern)
                key = None if wanted is None else len(wanted)
                seen[key] = seen.get(key, 0) + 1
        self.assertTrue(min(seen.get(key, 0) for key in (None, 0, 1, 2)) > 5, seen)

    def test_changed_papers_are_judged_as_the_conditions_say(self):
        seen = {True: 0, False: 0}
        for chance, plan, rules, ways in self.cases(99, 300):
            for _ in range(6):
                claims = any_claims(chance, plan)
                pattern = any_pattern(chance, len(plan.base)) if chance.random() < 0.4 else {0: (6,)}
                base = ways.behind(contents_of(plan, {}, claims)) if chance.random() < 0.7 else ways.found
                thing = changed_list(chance, sorted(base), len(plan.base))
                wanted = is_after_list(plan, rules, pattern, claims, thing)
                seen[wanted] += 1
                self.assertIs(is_after_paper(plan, rules, pattern, claims, thing), wanted, thing)
        self.assertTrue(min(seen.values()) > 200, seen)


class Bounds(unittest.TestCase):
    def test_ninety_nine(self):
        plan, rules = counted(99)
        self.assertEqual(len(after_paper(plan, rules, {7: (1,)}, NONE)), 99)
        far = [(7,) * 7 + (worth,) for worth in (0, 2)]
        plan, rules = counted(98)
        paper = after_paper(plan, rules, {7: (1,)}, NONE)
        for listed, wanted in ((paper, True), (paper + far[:1], True), (paper + far, False)):
            self.assertIs(is_after_paper(plan, rules, {7: (1,)}, NONE, listed), wanted)
        plan, rules = counted(100)
        for call in self.calls(plan, rules, {}, NONE):
            with self.assertRaises(TooMany):
                call()
        with self.assertRaises(TooMany):
            found_after(plan, rules, {}, ([], list(range(7)), []))
        with self.assertRaises(TooMany):
            first_came(plan, rules, {7: (1,)})

    def calls(self, plan, rules, pattern, claims):
        return (lambda: first_came(plan, rules, pattern), lambda: found_after(plan, rules, pattern, claims),
                lambda: after_paper(plan, rules, pattern, claims), lambda: is_after_paper(plan, rules, pattern, claims, []),
                lambda: is_after_paper(plan, rules, pattern, claims, None))

    def test_eight_cells_twelve_pieces_and_many_contents(self):
        plan = Plan((0,) * 8, 1, [(cell, (worth,)) for cell in range(4) for worth in (1, 2, 0)])
        steps = [(cell, (worth,)) for cell in range(4) for worth in (1, 2, 0)]
        rules = [({0: (2,), 1: (2,), 2: (2,), 3: (2,)}, [(7, (1,)), None, (3, (7,))])]
        rules += [({0: (at % 2,), 1: (at // 2,), 7: (0,)}, steps[at:] + steps[:at]) for at in range(4)]
        self.assertEqual(len(reached(plan, rules)), 83)
        self.assertEqual(first_came(plan, rules, {0: (2,), 1: (0,), 7: (0,)}), [])
        self.assertEqual(first_came(plan, rules[:1], {3: (7,)}), [1, 4, 7, 10])
        claims = ([1, 4], [0, 3, 8, 11], [(2, 1), (5, 4), (9, 6)])
        history = found_after(plan, rules, {3: (7,)}, claims)
        self.assertTrue(is_history(plan, rules, history) and is_fit(claims, history[0]))
        paper = after_paper(plan, rules, {3: (6,)}, claims)
        self.assertIs(is_after_paper(plan, rules, {3: (6,)}, claims, paper), True)
        self.assertIs(is_after_paper(plan, rules, {3: (6,)}, claims, paper[1:]), False)


class Rest(unittest.TestCase):
    def test_errors_in_their_order(self):
        plan, rules = counted(100)
        calls = Bounds.calls
        for wrong in WRONG_RULES + ODD_THINGS:
            for more in (({}, NONE), (None, None)):
                for call in calls(self, EXAMPLE, wrong, *more):
                    with self.assertRaises(InvalidRules, msg=repr(wrong)[:60]):
                        call()
        for wrong in WRONG_PATTERNS + ODD_THINGS:
            for claims in (NONE, None):
                for call in calls(self, FIVE, RULES, wrong, claims):
                    with self.assertRaises(InvalidPattern, msg=repr(wrong)[:60]):
                        call()
        for wrong in WRONG_CLAIMS + ODD_THINGS:
            for call in calls(self, FIVE, RULES, {0: (7,)}, wrong)[1:]:
                with self.assertRaises(InvalidClaims, msg=repr(wrong)[:60]):
                    call()
        for wrong in (None, ([9], [], []), ([0], [0], [])):
            for call in calls(self, plan, rules, {}, wrong)[1:]:
                with self.assertRaises(InvalidClaims):
                    call()
        for call in calls(self, plan, rules, {8: (0,)}, None):
            with self.assertRaises(InvalidPattern):
                call()

    def test_any_object_is_judged(self):
        for thing in ODD_THINGS + [None, {}, ()]:
            self.assertIs(is_after_paper(EXAMPLE, RULES, {1: (1,)}, ([], [0], []), thing), False)
            self.assertIs(is_after_paper(EXAMPLE, RULES, {1: (1,)}, ([], [0], []), [(2, 0), thing]), False)

    def test_arguments_stay_and_results_are_new(self):
        rules, pattern, claims, paper = [({1: (0, 1), 0: (1,)}, [(1, (1,)), (0, (0,))])], {1: (1,), 0: (0,)}, ([0], [], []), []
        history = found_after(EXAMPLE, rules, pattern, claims)
        history[0].append(9)
        after_paper(EXAMPLE, rules, {1: (7,)}, claims).clear()
        first_came(EXAMPLE, rules, pattern).clear()
        is_after_paper(EXAMPLE, rules, pattern, claims, paper)
        self.assertEqual([rules, list(rules[0][0]), pattern, list(pattern), claims, paper],
                         [[({0: (1,), 1: (0, 1)}, [(1, (1,)), (0, (0,))])], [1, 0], {0: (0,), 1: (1,)}, [1, 0], ([0], [], []), []])
        self.assertEqual([first_came(EXAMPLE, rules, pattern), len(after_paper(EXAMPLE, rules, {1: (7,)}, claims))], [[0], 4])

    def test_by_name(self):
        self.assertEqual(found_after(claims=NONE, pattern={0: (2,)}, rules=RULES, plan=EXAMPLE), [[]])
        self.assertIsNone(after_paper(claims=NONE, pattern={0: (2,)}, rules=RULES, plan=EXAMPLE))
        self.assertIs(is_after_paper(thing=[(2, 0)], claims=([], [0], []), pattern={1: (1,)}, rules=RULES, plan=EXAMPLE), True)
        self.assertEqual(first_came(pattern={1: (1,)}, rules=RULES, plan=EXAMPLE), [0])


if __name__ == "__main__":
    unittest.main()
