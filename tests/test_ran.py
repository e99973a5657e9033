"""Which rules ran, and what was left first ([2], [33])."""

import random
import unittest

from afterfall.errors import InvalidContent, InvalidNumber, InvalidRules, TooMany
from afterfall.plans import Plan
from afterfall.ran import first_left, history_without, is_ran_paper, ran_paper, ran_surely
from afterfall.restarts import is_history, reached
from tests.histories import Ways, any_case, contents_in, is_past, is_ran_list, rule_of
from tests.oracle import ODD_THINGS, any_plan, any_rules
from tests.test_contents import WRONG_CONTENTS
from tests.test_restarts import WRONG_RULES, counted

EXAMPLE = Plan((2, 0), 1, [(0, (1,))])
RULES = [({0: (1,)}, [(1, (1,)), (0, (0,))])]
WRONG_INDEXES = [-1, 1, 2, 8, True, False, None, "0", "", (), (0,), [], [0], {}, {0: 0}, 10 ** 39, -10 ** 39]


def rules_in(plan, rules, history):
    """The indexes of the rules that ran in a history."""
    return {rule_of(rules, content) for content in contents_in(plan, rules, history)[:-1]}


def changed_list(chance, listed, cells):
    """A list of contents with a few parts changed, left out, put in or put in another order."""
    listed = list(listed)
    for _ in range(chance.randint(0, 2)):
        which, at = chance.random(), chance.randrange(len(listed) + 1)
        other = tuple(chance.randrange(3) for _ in range(cells))
        if which < 0.3 and listed:
            del listed[min(at, len(listed) - 1)]
        elif which < 0.8:
            listed = sorted({*listed, other})
        elif which < 0.9 and listed:
            listed.insert(at, chance.choice(listed))
        else:
            chance.shuffle(listed)
    return listed


class Examples(unittest.TestCase):
    def test_those_of_the_document(self):
        self.assertEqual([ran_surely(EXAMPLE, RULES, (0, 1)), ran_surely(EXAMPLE, RULES, (1, 0)),
                          first_left(EXAMPLE, RULES, (0, 1))], [[0], [], [(1, 0)]])
        self.assertEqual([history_without(EXAMPLE, RULES, (1, 0), 0), is_ran_paper(EXAMPLE, RULES, (0, 1), 0, [(1, 0), (2, 0)])],
                         [[[0]], True])

    def test_a_content_that_is_not_found(self):
        rules = RULES + [({0: (0,)}, [(0, (0,))])]
        for content in ((0, 2), (7, 7), (2, 1)):
            self.assertEqual([ran_surely(EXAMPLE, rules, content), ran_surely(EXAMPLE, [], content)], [[0, 1], []])
            self.assertEqual([first_left(EXAMPLE, rules, content), history_without(EXAMPLE, rules, content, 1)], [[], None])
            for index in (0, 1):
                paper = ran_paper(EXAMPLE, rules, content, index)
                self.assertIs(is_ran_paper(EXAMPLE, rules, content, index, paper), True)

    def test_the_restart_of_what_is_found_at_the_end_is_none_of_its_falls(self):
        self.assertEqual([ran_surely(EXAMPLE, RULES, (1, 0)), ran_surely(EXAMPLE, RULES, (1, 1))], [[], [0]])
        rules = RULES + [({0: (0,), 1: (1,)}, [(1, (2,))])]
        self.assertEqual([ran_surely(EXAMPLE, rules, (0, 1)), ran_surely(EXAMPLE, rules, (0, 2))], [[0], [0, 1]])
        self.assertEqual(history_without(EXAMPLE, rules, (0, 1), 1)[0], [0])
        self.assertEqual([ran_paper(EXAMPLE, rules, (0, 2), 1), ran_paper(EXAMPLE, rules, (0, 1), 1)],
                         [[(0, 0), (0, 1), (1, 0), (1, 1), (2, 0)], None])

    def test_rules_behind_a_rule_that_always_matches_never_run(self):
        rules = [({0: (1,)}, [(0, (0,))]), ({0: (1,)}, [(1, (5,))])]
        self.assertEqual([ran_surely(EXAMPLE, rules, (0, 0)), ran_surely(EXAMPLE, rules, (2, 0))], [[0], []])
        self.assertEqual(history_without(EXAMPLE, rules, (0, 0), 1), [[0], [0]])

    def test_either_of_two_rules(self):
        # Two ways lead to (0, 1), and no rule ran in both of them.
        plan = Plan((0, 0), 1, [(0, (1,)), (0, (2,))])
        rules = [({0: (1,)}, [(1, (1,)), None, (0, (0,))]), ({0: (2,)}, [(1, (1,)), None, (0, (0,))])]
        self.assertEqual([ran_surely(plan, rules, (0, 1)), ran_surely(plan, rules, (1, 1)), ran_surely(plan, rules, (2, 1))],
                         [[], [0], [1]])
        self.assertEqual([first_left(plan, rules, (0, 1)), first_left(plan, rules, (0, 0)), first_left(plan, rules, (2, 1))],
                         [[(1, 0), (2, 0)], [(0, 0)], [(2, 0)]])

    def test_the_conditions_one_by_one(self):
        rules = RULES + [({0: (0,), 1: (1,)}, [(1, (2,))])]
        paper = [(0, 0), (0, 1), (1, 0), (1, 1), (2, 0)]
        for thing, content, index, wanted in (
                (paper, (0, 2), 1, True), (paper + [(7, 7)], (0, 2), 1, True), (paper[1:], (0, 2), 1, False),
                (paper[:4], (0, 2), 1, False), (paper[:2] + paper[3:], (0, 2), 1, False), (paper, (0, 1), 1, False),
                (paper, (7, 7), 1, True), (paper, (7, 7), 0, False), ([(1, 0), (2, 0)], (0, 1), 0, True),
                ([(1, 0), (2, 0)], (0, 1), 1, False), ([(0, 1), (1, 0), (2, 0)], (7, 7), 0, False),
                ([(0, 1), (0, 2), (1, 0), (2, 0)], (7, 7), 0, True), (paper[::-1], (0, 2), 1, False),
                (paper + paper[4:], (0, 2), 1, False), ([(1, 0), (1, 5), (2, 0)], (0, 1), 0, True),
                (paper[:4] + [(1, 5), (2, 0)], (0, 2), 1, False), ([], (0, 2), 1, False), (tuple(paper), (0, 2), 1, False),
                (paper + [(7, 7, 7)], (0, 2), 1, False), (paper + [(7, 8)], (0, 2), 1, False), (paper + [(7,)], (0, 2), 1, False),
                (paper + [(7, True)], (0, 2), 1, False), (paper[:4] + [(2, False)], (0, 2), 1, False),
                (paper + [None], (0, 2), 1, False), (dict.fromkeys(paper), (0, 2), 1, False), (None, (0, 2), 1, False)):
            self.assertIs(is_ran_paper(EXAMPLE, rules, content, index, thing), wanted, (thing, content, index))
            self.assertIs(is_ran_list(EXAMPLE, rules, content, index, thing), wanted, (thing, content, index))


class AgainstAllHistories(unittest.TestCase):
    def cases(self, seed, many):
        chance = random.Random(seed)
        for turn in range(many):
            if turn % 2:
                plan, rules, _ = any_case(chance, Plan)
            else:
                plan = any_plan(chance, Plan, 3)
                rules = any_rules(chance, plan)
            yield chance, plan, rules, Ways(plan, rules)

    def test_small_plans(self):
        seen = {}
        for chance, plan, rules, ways in self.cases(95, 300):
            asked = sorted(ways.found) + [tuple(chance.randrange(4) for _ in plan.base)]
            for content in chance.sample(asked, min(5, len(asked))):
                sure = []
                for index in range(len(rules)):
                    without = content not in ways.behind(ways.falls[None], index)
                    sure.extend([index] if without else [])
                    history = history_without(plan, rules, content, index)
                    paper = ran_paper(plan, rules, content, index)
                    self.assertEqual([history is None, paper is None], [without, not without])
                    if history is None:
                        self.assertTrue(is_ran_list(plan, rules, content, index, paper))
                        self.assertIs(is_ran_paper(plan, rules, content, index, paper), True)
                    else:
                        self.assertTrue(is_past(plan, rules, history))
                        self.assertEqual(contents_in(plan, rules, history)[-1], content)
                        self.assertNotIn(index, rules_in(plan, rules, history))
                self.assertEqual(ran_surely(plan, rules, content), sure)
                seen[len(sure), content in ways.found] = True
                firsts = [left for left in sorted(ways.falls[None]) if content in ways.behind([left])]
                self.assertEqual(first_left(plan, rules, content), firsts)
                seen["firsts", len(firsts)] = True
        self.assertTrue(len(seen) > 9, seen)

    def test_changed_papers_are_judged_as_the_conditions_say(self):
        seen = {True: 0, False: 0}
        for chance, plan, rules, ways in self.cases(96, 300):
            if not rules:
                continue
            for _ in range(6):
                index = chance.randrange(len(rules))
                base = chance.choice((sorted(ways.found), sorted(ways.behind(ways.falls[None], index))))
                thing = changed_list(chance, base, len(plan.base))
                content = chance.choice(sorted(ways.found)) if chance.random() < 0.5 else (5,) * len(plan.base)
                wanted = is_ran_list(plan, rules, content, index, thing)
                seen[wanted] += 1
                self.assertIs(is_ran_paper(plan, rules, content, index, thing), wanted, thing)
        self.assertTrue(min(seen.values()) > 200, seen)


class Bounds(unittest.TestCase):
    def test_ninety_nine(self):
        plan, rules = counted(99)
        full = (1, 1, 1, 1, 1, 2, 0, 0)
        last = full[:6] + (3, 0)
        self.assertEqual(len(reached(plan, rules)), 99)
        self.assertEqual([ran_surely(plan, rules, last), first_left(plan, rules, last)], [[0], [full]])
        paper = ran_paper(plan, rules, last, 0)
        self.assertEqual(len(paper), 96)
        more = paper + [(7, 0, 0, 0, 0, 0, 0, worth) for worth in range(4)]
        for listed, wanted in ((paper, True), (more[:98], True), (more[:99], True), (more, False)):
            self.assertIs(is_ran_paper(plan, rules, last, 0, listed), wanted)
        plan, rules = counted(100)
        for call in self.calls(plan, rules, last, 0):
            with self.assertRaises(TooMany):
                call()

    def calls(self, plan, rules, content, index):
        return (lambda: ran_surely(plan, rules, content), lambda: history_without(plan, rules, content, index),
                lambda: ran_paper(plan, rules, content, index), lambda: is_ran_paper(plan, rules, content, index, []),
                lambda: is_ran_paper(plan, rules, content, index, None), lambda: first_left(plan, rules, content))

    def test_eight_cells_twelve_pieces_and_eight_rules(self):
        plan = Plan((0,) * 8, 1, [(cell, (worth,)) for cell in range(4) for worth in (1, 2, 0)])
        steps = [(cell, (worth,)) for cell in range(4) for worth in (1, 2, 0)]
        rules = [({0: (2,), 1: (2,), 2: (2,), 3: (2,), 7: (0,)}, [(7, (1,)), None, (3, (2,))])]
        rules += [({0: (at % 2,), 1: (at // 2,), 7: (0,)}, steps[at:] + steps[:at]) for at in range(4)]
        rules += [({2: (2,), 3: (at,), 7: (0,)}, steps[::-1]) for at in range(3)]
        content = (2, 2, 2, 2, 0, 0, 0, 1)
        # All that is not at rest leads there: 4 * 9 contents by the cells 0 and 1, and 5 * 3 more by the cell 2.
        self.assertEqual([len(first_left(plan, rules, content)), ran_surely(plan, rules, content)], [51, [0]])
        self.assertTrue(is_history(plan, rules, history_without(plan, rules, content, 3)))
        self.assertEqual(len(ran_paper(plan, rules, content, 0)), 81)
        self.assertIs(is_ran_paper(plan, rules, content, 0, ran_paper(plan, rules, content, 0)), True)


class Rest(unittest.TestCase):
    def test_errors_in_their_order(self):
        plan, rules = counted(100)
        calls = Bounds.calls
        for wrong in WRONG_RULES + ODD_THINGS:
            for more in (((1, 0), 0), (None, None)):
                for call in calls(self, EXAMPLE, wrong, *more):
                    with self.assertRaises(InvalidRules, msg=repr(wrong)[:60]):
                        call()
        for wrong in WRONG_CONTENTS + ODD_THINGS + [None]:
            for index in (0, None):
                for call in calls(self, EXAMPLE, RULES, wrong, index):
                    with self.assertRaises(InvalidContent, msg=repr(wrong)[:60]):
                        call()
                for call in calls(self, plan, rules, wrong if wrong != (0,) * 24 else (0,), index):
                    with self.assertRaises(InvalidContent, msg=repr(wrong)[:60]):
                        call()
        for wrong in WRONG_INDEXES + ODD_THINGS:
            for call in calls(self, EXAMPLE, RULES, (1, 0), wrong)[1:5]:
                with self.assertRaises(InvalidNumber, msg=repr(wrong)[:60]):
                    call()
            for call in calls(self, plan, rules, (0,) * 8, wrong)[1:5]:
                with self.assertRaises(InvalidNumber, msg=repr(wrong)[:60]):
                    call()
        for index in (0, 1, -1):
            for call in calls(self, EXAMPLE, [], (1, 0), index)[1:5]:
                with self.assertRaises(InvalidNumber):
                    call()

    def test_any_object_is_judged(self):
        for thing in ODD_THINGS + [None, [], {}, ()]:
            self.assertIs(is_ran_paper(EXAMPLE, RULES, (0, 1), 0, thing), False)
            self.assertIs(is_ran_paper(EXAMPLE, RULES, (0, 1), 0, [(1, 0), (2, 0), thing]), False)

    def test_arguments_stay_and_results_are_new(self):
        rules, paper = [({1: (0, 1), 0: (1,)}, [(1, (1,)), (0, (0,))])], [(1, 0), (2, 0)]
        ran_surely(EXAMPLE, rules, (0, 1)).clear()
        first_left(EXAMPLE, rules, (0, 1)).clear()
        ran_paper(EXAMPLE, rules, (0, 1), 0).clear()
        history = history_without(EXAMPLE, rules, (1, 0), 0)
        history[0].clear()
        is_ran_paper(EXAMPLE, rules, (0, 1), 0, paper)
        self.assertEqual([rules, list(rules[0][0]), paper],
                         [[({0: (1,), 1: (0, 1)}, [(1, (1,)), (0, (0,))])], [1, 0], [(1, 0), (2, 0)]])
        self.assertEqual([ran_surely(EXAMPLE, rules, (0, 1)), first_left(EXAMPLE, rules, (0, 1)),
                          ran_paper(EXAMPLE, rules, (0, 1), 0), history_without(EXAMPLE, rules, (1, 0), 0)],
                         [[0], [(1, 0)], [(1, 0), (2, 0)], [[0]]])

    def test_by_name(self):
        self.assertEqual(ran_surely(content=(0, 1), rules=RULES, plan=EXAMPLE), [0])
        self.assertEqual(history_without(index=0, content=(1, 0), rules=RULES, plan=EXAMPLE), [[0]])
        self.assertEqual(ran_paper(index=0, content=(0, 1), rules=RULES, plan=EXAMPLE), [(1, 0), (2, 0)])
        self.assertIs(is_ran_paper(thing=[], index=0, content=(0, 1), rules=RULES, plan=EXAMPLE), False)
        self.assertEqual(first_left(content=(0, 1), rules=RULES, plan=EXAMPLE), [(1, 0)])


if __name__ == "__main__":
    unittest.main()
