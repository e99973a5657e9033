"""Gaps of plans with rules, and the cheapest barriers with which no history does harm ([2], [29], [30])."""

import random
import unittest

from afterfall.barriers import cheapest, gaps, with_barriers
from afterfall.errors import (Always, InvalidGuards, InvalidHistory, InvalidNumber, InvalidPrices, InvalidRules, TooMany,
                              UnknownGap)
from afterfall.plans import Plan
from afterfall.restarts import is_history, reached, restart, unsafe
from afterfall.safegaps import cheapest_safe, history_gaps, is_safe_with, safe_gaps, with_gaps
from tests.histories import (all_barred, any_case, broken_in, does_harm, enough_lists, every_gap, is_past, shutters_of_all,
                             subsets)
from tests.oracle import ODD_THINGS, any_plan, any_rules, inner_lists
from tests.test_guards import WRONG_GUARDS
from tests.test_restarts import WRONG_RULES, any_history, changed_history, counted

EXAMPLE = Plan((2, 0), 1, [(0, (1,))])
RULES = [({0: (1,)}, [(1, (1,)), (0, (0,))])]
GUARDS = [{0: (0,), 1: (0,)}]
PRICES = {(1, 1): 7}

# A plan with the gaps 1 and 2, and rules with the gaps 1, 4 and 1.
TWO = Plan((0, 0), 1, [(0, (1,)), (1, (1,)), (0, (2,)), None, (1, (3,))])
TWO_RULES = [({0: (2,)}, [(0, (3,)), (1, (3,)), None, (0, (4,)), (1, (4,)), None, None]), ({0: (3,)}, [(1, (5,)), (0, (5,))])]
TWO_GAPS = [(0, 1), (0, 2), (1, 1), (1, 4), (2, 1)]

WRONG_CHOICES = [None, 0, True, "", (), ((0, 1),), {}, {(0, 1): 1}, [0], [1], [None], [(0,)], [(0, 1, 1)], [[0, 1]], [(0, 0)],
                 [(0, 3)], [(0, 4)], [(0, -1)], [(-1, 1)], [(1, 2)], [(1, 3)], [(1, 5)], [(1, 6)], [(1, 7)], [(2, 2)],
                 [(3, 1)], [(0, 1), (0, 1)], [(2, 1), (0, 1), (2, 1)], [(0, True)], [(False, 1)], [(True, 1)], [(2, True)],
                 [("0", 1)], [(0, "1")], [(0, None)], [((0, 1),)], [((0, 1), 1)], [(0, (1,))], [(0, [1])], [(10 ** 39, 1)],
                 [(0, 10 ** 39)], TWO_GAPS + [None], TWO_GAPS + TWO_GAPS[:1], TWO_GAPS + [(3, 1)], tuple(TWO_GAPS)]
WRONG_PRICES = [None, 0, True, "", [], [7], (), {}, {(1, 1): 0}, {(1, 1): 1000}, {(1, 1): -7}, {(1, 1): True}, {(1, 1): "7"},
                {(1, 1): None}, {(1, 1): (7,)}, {(1, 1): [7]}, {(1, 1): 10 ** 39}, {(1, True): 7}, {(True, 1): 7},
                {(True, True): 7}, {1: 7}, {"1": 7}, {(1,): 7}, {(1, 1, 1): 7}, {(0, 1): 7}, {(1, 2): 7}, {(1, 0): 7},
                {(1, "1"): 7}, {((1, 1),): 7}, {(1, (1,)): 7}, {(1, 1): 7, (1, 2): 7}, {(1, 1): 7, (0, 1): 7},
                {(1, 1): 7, 1: 7}, {(1, 1): 7, "": 7}, {(1, 1): 7, (2, 1): 7}]
WRONG_FALLS = [-1, True, False, "", "1", (), (1,), [], [1], {}, {0: 1}, -10 ** 39]


class Examples(unittest.TestCase):
    def test_those_of_the_document(self):
        self.assertEqual([safe_gaps(EXAMPLE, RULES), history_gaps(EXAMPLE, RULES, [[0], [1]]),
                          with_gaps(EXAMPLE, RULES, [(1, 1)])[1]],
                         [[(1, 1)], [(1, 1)], [({0: (1,)}, [(1, (1,)), None, (0, (0,))])]])
        self.assertEqual([cheapest_safe(EXAMPLE, RULES, GUARDS, PRICES), is_safe_with(EXAMPLE, RULES, GUARDS, []),
                          is_safe_with(EXAMPLE, RULES, GUARDS, [], falls=0)], [(7, [(1, 1)]), False, True])

    def test_gaps_of_the_plan_and_of_each_rule(self):
        self.assertEqual(safe_gaps(TWO, TWO_RULES), TWO_GAPS)
        self.assertEqual(safe_gaps(TWO, []), [(0, 1), (0, 2)])
        self.assertEqual(safe_gaps(Plan((0,), 1, []), []), [])
        self.assertEqual(safe_gaps(EXAMPLE, [({}, [None] * 3), ({}, [None, (0, (0,)), None]), ({}, [(0, (0,))] * 3)]),
                         [(3, 1), (3, 2)])

    def test_barriers_by_the_indexes_that_are_passed(self):
        for chosen in (TWO_GAPS, TWO_GAPS[::-1], TWO_GAPS[2:] + TWO_GAPS[:2]):
            plan, rules = with_gaps(TWO, TWO_RULES, chosen)
            self.assertEqual(plan.steps, [(0, (1,)), None, (1, (1,)), None, (0, (2,)), None, (1, (3,))])
            self.assertEqual(rules, [
                ({0: (2,)}, [(0, (3,)), None, (1, (3,)), None, (0, (4,)), None, (1, (4,)), None, None]),
                ({0: (3,)}, [(1, (5,)), None, (0, (5,))])])
        self.assertEqual(with_gaps(TWO, TWO_RULES, []), (TWO, TWO_RULES))
        plan, rules = with_gaps(TWO, TWO_RULES, [(1, 4), (0, 2)])
        self.assertEqual([plan, rules[1]], [with_barriers(TWO, [2]), TWO_RULES[1]])
        self.assertEqual(rules[0][1][4:7], [None, (1, (4,)), None])

    def test_rules_with_one_and_the_same_list_of_steps(self):
        steps = [(0, (1,)), (1, (1,))]
        rules = [({0: (0,)}, steps), ({0: (1,)}, steps), ({1: (2,)}, steps)]
        self.assertEqual(safe_gaps(EXAMPLE, rules), [(1, 1), (2, 1), (3, 1)])
        plan, others = with_gaps(EXAMPLE, rules, [(2, 1)])
        self.assertEqual([len(part) for _, part in others], [2, 3, 2])
        others[0][1].append(None)
        self.assertEqual([len(others[2][1]), len(steps), plan], [2, 2, EXAMPLE])

    def test_gaps_that_shut_histories(self):
        for history, wanted in (([[]], []), ([[0]], []), ([[1]], [(0, 1)]), ([[2]], [(0, 1), (0, 2)]), ([[0, 2]], [(0, 2)]),
                                ([[1, 0]], [(0, 1)]), ([[1, 0, 2], [1]], [(0, 1), (1, 1)]),
                                ([[0, 1, 2], [0, 1, 3]], [(1, 4)]), ([[0, 1, 2], [0, 1, 2, 3]], []),
                                ([[2], [0], [1]], [(0, 1), (0, 2), (2, 1)]), ([[2], [0], [0]], [(0, 1), (0, 2)]),
                                ([[0, 1, 2], [], [0], [0], [1, 0]], [(2, 1)]), ([[0, 1, 2], [1], [1, 0, 3]], [(1, 1), (1, 4)]),
                                ([[0, 1, 2, 3], [1], [0], []], [(1, 1)])):
            self.assertEqual(is_past(TWO, TWO_RULES, history), True)
            self.assertEqual(history_gaps(TWO, TWO_RULES, history), wanted, history)
            self.assertEqual(shutters_of_all(TWO, TWO_RULES, history), wanted, history)

    def test_harm_at_rest_alone(self):
        self.assertEqual(cheapest_safe(EXAMPLE, RULES, [{0: (1,)}], PRICES), (0, []))
        self.assertEqual(cheapest_safe(EXAMPLE, [], [{0: (1,), 1: (1,)}], {}), (0, []))
        with self.assertRaises(Always) as caught:
            cheapest_safe(EXAMPLE, [], [{1: (1,)}, {0: (1,)}], {})
        self.assertEqual([caught.exception.guard, caught.exception.course], [1, [[0]]])
        self.assertIs(is_safe_with(EXAMPLE, [], [{0: (1,)}], []), False)

    def test_numbers_of_falls(self):
        # Three falls must be broken off in time, each ahead of the first of two writes.
        plan = Plan((0, 0), 1, [(1, (1,)), (0, (1,))])
        rules = [({0: (worth,), 1: (0,)}, [(1, (1,)), (0, (worth + 1,))]) for worth in range(1, 3)]
        guards, prices = [{0: (3,), 1: (0,)}], {(0, 1): 4, (1, 1): 2, (2, 1): 1}
        for falls, wanted in ((None, False), (0, True), (1, True), (2, True), (3, False), (4, False), (10 ** 39, False)):
            self.assertEqual(cheapest_safe(plan, rules, guards, prices, falls=falls), (0, []) if wanted else (1, [(2, 1)]))
            self.assertIs(is_safe_with(plan, rules, guards, [], falls=falls), wanted)
            for chosen in ([(0, 1)], [(1, 1)], [(2, 1)], [(1, 1), (0, 1)]):
                self.assertIs(is_safe_with(plan, rules, guards, chosen, falls=falls), True)

    def test_the_plan_alone_is_as_in_cheapest(self):
        plan, guards = Plan((0, 0, 0), 1, [(0, (1,)), (1, (1,)), (2, (1,))]), [{0: (0,), 2: (1,)}]
        self.assertEqual([cheapest_safe(plan, [], guards, {(0, 1): 5, (0, 2): 3}), cheapest(plan, guards, {1: 5, 2: 3})],
                         [(3, [(0, 2)]), (3, [2])])


class AgainstAllHistories(unittest.TestCase):
    def test_gaps_barriers_and_histories(self):
        chance, seen = random.Random(88), {True: 0, False: 0}
        for turn in range(200):
            plan, rules, _ = any_case(chance, Plan)
            if turn % 2:
                plan = any_plan(chance, Plan, 3)
                rules = any_rules(chance, plan)
            able = every_gap(plan, rules)
            self.assertEqual(safe_gaps(plan, rules), able)
            for chosen in chance.sample(subsets(able), min(4, len(subsets(able)))):
                told = with_gaps(plan, rules, chance.sample(chosen, len(chosen)))
                self.assertEqual(told, all_barred(plan, rules, chosen))
                for _ in range(4):
                    history = any_history(chance, plan, rules)
                    shutters = history_gaps(plan, rules, history)
                    self.assertEqual(shutters, shutters_of_all(plan, rules, history))
                    shut = bool(set(shutters) & set(chosen))
                    seen[shut] += 1
                    self.assertIs(is_history(*told, history), not shut)
                    history = changed_history(chance, history)
                    if not is_past(plan, rules, history):
                        with self.assertRaises(InvalidHistory):
                            history_gaps(plan, rules, history)
        self.assertTrue(min(seen.values()) > 300, seen)

    def test_cheapest_and_safe_lists(self):
        chance, seen = random.Random(89), {}
        for _ in range(160):
            plan, rules, guards = any_case(chance, Plan)
            able = every_gap(plan, rules)
            prices = {gap: chance.randint(1, 5) for gap in chance.sample(able, len(able))}
            for falls in (None, 0, 1, 2):
                enough = enough_lists(plan, rules, guards, falls)
                for chosen in subsets(able):
                    thing = chance.sample(chosen, len(chosen))
                    self.assertIs(is_safe_with(plan, rules, guards, thing, falls=falls), chosen in enough)
                wanted = min((sum(prices[gap] for gap in chosen) for chosen in enough), default=None)
                seen[wanted] = seen.get(wanted, 0) + 1
                if wanted is None:
                    with self.assertRaises(Always) as caught:
                        cheapest_safe(plan, rules, guards, prices, falls=falls)
                    course = caught.exception.course
                    self.assertTrue(is_past(*all_barred(plan, rules, able), course))
                    self.assertTrue(does_harm(plan, rules, guards, caught.exception.guard, course, falls))
                else:
                    price, chosen = cheapest_safe(plan, rules, guards, prices, falls=falls)
                    self.assertTrue(chosen in enough and price == wanted == sum(prices[gap] for gap in chosen))
        self.assertTrue(min(seen.get(price, 0) for price in (None, 0, 1, 2, 3)) > 5 and max(
            price or 0 for price in seen) > 5, seen)

    def test_without_a_number_it_is_unsafe_that_tells_of_it(self):
        chance = random.Random(90)
        for _ in range(150):
            plan, rules, guards = any_case(chance, Plan)
            for chosen in subsets(every_gap(plan, rules))[:5]:
                told = unsafe(*with_gaps(plan, rules, chosen), guards)
                self.assertIs(is_safe_with(plan, rules, guards, chosen), told is None)
                if told is not None:
                    broken = broken_in(plan, rules, told[1])
                    self.assertIs(is_safe_with(plan, rules, guards, chosen, falls=broken), False)


def twelve_writes(chance, cells, many):
    """Steps of twelve pieces with just so many gaps."""
    bars, steps = chance.sample(range(1, 12), 11 - many), []
    for at in range(12):
        first = chance.randrange(cells)
        worths = tuple(chance.randrange(2) for _ in range(1 if chance.random() < 0.8 else chance.randint(1, cells - first)))
        steps.extend(([None] if at in bars else []) + [(first, worths)])
    return steps


def wide_case(chance):
    """A plan and rules of twelve pieces each with eight gaps together, and guards that barriers can shut out."""
    while True:
        cells, counts = chance.randint(4, 7), [0] * chance.randint(2, 4)
        for _ in range(8):
            counts[chance.randrange(len(counts))] += 1
        plan = Plan((0,) * 8, 8, twelve_writes(chance, cells, counts[0]))
        rules = [({cell: (chance.randrange(2),) for cell in chance.sample(range(cells), chance.randint(1, 2))},
                  twelve_writes(chance, cells, many)) for many in counts[1:]]
        try:
            found = reached(plan, rules)
        except TooMany:
            continue
        late = reached(*with_gaps(plan, rules, safe_gaps(plan, rules)))
        bad = [content for content in found if content not in late and restart(plan, rules, content) is None]
        if len(found) > 30 and bad:
            return plan, rules, [dict(enumerate((worth,) for worth in content)) for content in bad]


class LargeCases(unittest.TestCase):
    def test_eight_gaps_twelve_pieces_and_dozens_of_contents(self):
        chance, sizes = random.Random(91), {}
        for turn in range(40):
            plan, rules, guards = wide_case(chance)
            able = safe_gaps(plan, rules)
            self.assertEqual(len(able), 8)
            prices = {gap: chance.randint(1, 1 if turn % 2 else 999) for gap in able}
            for falls in (None, 1, 4):
                price, chosen = cheapest_safe(plan, rules, guards, prices, falls=falls)
                sizes[len(chosen)] = True
                self.assertIs(is_safe_with(plan, rules, guards, chosen, falls=falls), True)
                self.assertEqual(price, sum(prices[gap] for gap in chosen))
                for gap in chosen:
                    self.assertIs(is_safe_with(plan, rules, guards, [one for one in chosen if one != gap], falls=falls), False)
            if len(chosen) > 1 and turn > 30:
                cheaper = [some for some in subsets(able) if sum(prices[gap] for gap in some) < price]
                for some in cheaper:
                    self.assertIs(is_safe_with(plan, rules, guards, some, falls=falls), False)
        self.assertTrue(max(sizes) > 2, sizes)

    def test_all_of_eight_gaps_are_needed(self):
        # Each worth of a counter is written behind the one ahead of it; a worth that is left out does harm.
        plan = Plan((0,) * 5, 1, [(cell, (1,)) for cell in range(5)])
        rules = [({0: (1,), 1: (1,), 2: (1,), 3: (1,), 4: (1,)}, [(4 - cell, (0,)) for cell in range(5)])]
        guards = [{cell: (0,), cell + 1: (1,)} for cell in range(4)]
        prices = {gap: 990 + gap[1] + gap[0] for gap in safe_gaps(plan, rules)}
        self.assertEqual(cheapest_safe(plan, rules, guards, prices), (sum(prices.values()), list(prices)))
        self.assertEqual(cheapest_safe(plan, rules, guards[:1], prices)[1], [(0, 1), (1, 4)])
        self.assertEqual(cheapest_safe(plan, rules, guards, prices, falls=0), (0, []))

    def test_twenty_four_steps(self):
        steps = [(cell % 3, (1,)) for cell in range(12)] + [None] * 12
        plan, rules = Plan((0, 0, 0), 1, steps), [({0: (1,), 2: (0,)}, steps[::-1])]
        able = safe_gaps(plan, rules)
        self.assertEqual([len(able), len(with_gaps(plan, rules, able)[0].steps), len(with_gaps(plan, rules, able)[1][0][1])],
                         [22, 35, 35])
        self.assertEqual(history_gaps(plan, rules, [[11]]), [(0, gap) for gap in range(1, 12)])
        for chosen, wanted in ((able, True), (able[:1], True), (able[1:], False), ([], False)):
            self.assertIs(is_safe_with(plan, rules, [{0: (0,), 1: (1,)}], chosen), wanted)


class Rest(unittest.TestCase):
    def test_invalid_rules_come_first(self):
        for rules in WRONG_RULES + ODD_THINGS:
            for call in (lambda: safe_gaps(EXAMPLE, rules), lambda: with_gaps(EXAMPLE, rules, None),
                         lambda: history_gaps(EXAMPLE, rules, None), lambda: with_gaps(EXAMPLE, rules, []),
                         lambda: history_gaps(EXAMPLE, rules, [[0]]), lambda: cheapest_safe(EXAMPLE, rules, None, None, falls=-1),
                         lambda: cheapest_safe(EXAMPLE, rules, GUARDS, PRICES), lambda: is_safe_with(EXAMPLE, rules, GUARDS, []),
                         lambda: is_safe_with(EXAMPLE, rules, None, None, falls=-1)):
                with self.assertRaises(InvalidRules, msg=repr(rules)[:60]):
                    call()

    def test_unknown_gaps(self):
        for chosen in WRONG_CHOICES + ODD_THINGS:
            with self.assertRaises(UnknownGap, msg=repr(chosen)[:60]):
                with_gaps(TWO, TWO_RULES, chosen)
            self.assertIs(is_safe_with(TWO, TWO_RULES, [], chosen), False, repr(chosen)[:60])
            self.assertIs(is_safe_with(TWO, TWO_RULES, [], chosen, falls=0), False, repr(chosen)[:60])

    def test_invalid_histories(self):
        for thing in [None, 0, (), [], {}, [0], [None], [()], [[1]], [[0], [2]], [[0], [0, 1], []], [[True]], [[False]],
                      [[0, 0]], [[0], [0, True]], [[], []], [[2]], [[0]] * 3 + [[3]]] + ODD_THINGS:
            if not is_past(EXAMPLE, RULES, thing):
                with self.assertRaises(InvalidHistory, msg=repr(thing)[:60]):
                    history_gaps(EXAMPLE, RULES, thing)
        self.assertEqual(history_gaps(EXAMPLE, RULES, [[0]] + [[], [0]] * 1500 + [[1]]), [(1, 1)])

    def test_errors_in_their_order(self):
        plan, rules = counted(100)
        able = safe_gaps(plan, rules)
        prices = {gap: 1 for gap in able}
        for guards in WRONG_GUARDS + ODD_THINGS:
            for falls in (None, -1):
                with self.assertRaises(InvalidGuards, msg=repr(guards)[:60]):
                    cheapest_safe(EXAMPLE, RULES, guards, None, falls=falls)
                with self.assertRaises(InvalidGuards, msg=repr(guards)[:60]):
                    is_safe_with(EXAMPLE, RULES, guards, [], falls=falls)
        for wrong in WRONG_PRICES + ODD_THINGS:
            for guards in (GUARDS, [{}]):
                for falls in (None, -1):
                    with self.assertRaises(InvalidPrices, msg=repr(wrong)[:60]):
                        cheapest_safe(EXAMPLE, RULES, guards, wrong, falls=falls)
            with self.assertRaises(InvalidPrices, msg=repr(wrong)[:60]):
                cheapest_safe(plan, rules, [], wrong)
        for falls in WRONG_FALLS + [odd for odd in ODD_THINGS if odd != 10 ** 40 - 1]:
            for call in (lambda: cheapest_safe(EXAMPLE, RULES, [{}], PRICES, falls=falls),
                         lambda: is_safe_with(EXAMPLE, RULES, [{}], [], falls=falls),
                         lambda: is_safe_with(EXAMPLE, RULES, [{}], None, falls=falls),
                         lambda: cheapest_safe(plan, rules, [], prices, falls=falls),
                         lambda: is_safe_with(plan, rules, [], [], falls=falls)):
                with self.assertRaises(InvalidNumber, msg=repr(falls)[:60]):
                    call()
        for call in (lambda: cheapest_safe(plan, rules, [{}], prices), lambda: is_safe_with(plan, rules, [{}], []),
                     lambda: is_safe_with(plan, rules, [], None), lambda: is_safe_with(plan, rules, [], able),
                     lambda: cheapest_safe(plan, rules, [], prices, falls=0)):
            with self.assertRaises(TooMany):
                call()
        with self.assertRaises(InvalidGuards):
            is_safe_with(plan, rules, [{8: (0,)}], None)

    def test_too_many_is_judged_for_what_is_passed(self):
        # With barriers at all gaps there would be few contents.
        plan = Plan((0,) * 8, 1, [(cell, (1,)) for cell in range(7)])
        able = safe_gaps(plan, [])
        self.assertEqual(len(able), 6)
        with self.assertRaises(TooMany):
            is_safe_with(plan, [], [], able)
        with self.assertRaises(TooMany):
            cheapest_safe(plan, [], [], {gap: 1 for gap in able})
        self.assertIs(is_safe_with(*with_gaps(plan, [], able), [], []), True)

    def test_always_copies_its_course(self):
        courses = []
        for _ in range(2):
            with self.assertRaises(Always) as caught:
                cheapest_safe(EXAMPLE, RULES, [{0: (0,), 1: (1,)}], PRICES)
            courses.append(caught.exception.course)
            self.assertTrue(is_past(*all_barred(EXAMPLE, RULES, [(1, 1)]), courses[-1]))
        courses[0][0].append(9)
        self.assertNotEqual(courses[0], courses[1])

    def test_arguments_stay_and_results_are_new(self):
        steps = [(1, (1,)), (0, (0,))]
        rules, guards, chosen, history = [({1: (0, 1), 0: (1,)}, steps)], [{1: (0,), 0: (0,)}], [(1, 1)], [[0], [1]]
        prices = {(1, 1): 7}
        plan, others = with_gaps(EXAMPLE, rules, chosen)
        self.assertEqual(list(others[0][0].items()), [(0, (1,)), (1, (0, 1))])
        others[0][1].clear()
        others[0][0].clear()
        others.clear()
        with_gaps(EXAMPLE, rules, [])[1][0][1].clear()
        safe_gaps(EXAMPLE, rules).clear()
        history_gaps(EXAMPLE, rules, history).clear()
        cheapest_safe(EXAMPLE, rules, guards, prices)[1].clear()
        is_safe_with(EXAMPLE, rules, guards, chosen)
        self.assertEqual([rules, steps, guards, chosen, history, prices, plan],
                         [[({0: (1,), 1: (0, 1)}, steps)], [(1, (1,)), (0, (0,))], GUARDS, [(1, 1)], [[0], [1]], PRICES, EXAMPLE])
        self.assertEqual([list(rules[0][0]), list(guards[0])], [[1, 0], [1, 0]])
        self.assertEqual(cheapest_safe(EXAMPLE, rules, guards, prices), (7, [(1, 1)]))
        held = [id(part) for part in inner_lists(list(with_gaps(EXAMPLE, rules * 3, [(2, 1)])))]
        self.assertEqual(len(set(held)), len(held))

    def test_arguments_count_as_they_stand_at_the_call(self):
        rules, guards, prices = [({0: (1,)}, [(1, (1,)), (0, (0,))])], [{0: (0,), 1: (0,)}], {(1, 1): 7}
        self.assertEqual(cheapest_safe(EXAMPLE, rules, guards, prices), (7, [(1, 1)]))
        prices[(1, 1)] = 3
        self.assertEqual(cheapest_safe(EXAMPLE, rules, guards, prices), (3, [(1, 1)]))
        guards[0][0] = (6,)
        self.assertEqual(cheapest_safe(EXAMPLE, rules, guards, prices), (0, []))
        rules[0][1].insert(1, None)
        self.assertEqual([safe_gaps(EXAMPLE, rules), is_safe_with(EXAMPLE, rules, GUARDS, [])], [[], True])
        with self.assertRaises(InvalidPrices):
            cheapest_safe(EXAMPLE, rules, guards, prices)

    def test_by_name(self):
        self.assertEqual(safe_gaps(rules=RULES, plan=EXAMPLE), [(1, 1)])
        self.assertEqual(with_gaps(chosen=[], rules=RULES, plan=EXAMPLE), (EXAMPLE, RULES))
        self.assertEqual(history_gaps(history=[[0], [1]], rules=RULES, plan=EXAMPLE), [(1, 1)])
        self.assertEqual(cheapest_safe(falls=None, prices=PRICES, guards=GUARDS, rules=RULES, plan=EXAMPLE), (7, [(1, 1)]))
        self.assertIs(is_safe_with(falls=0, thing=[], guards=GUARDS, rules=RULES, plan=EXAMPLE), True)
        with self.assertRaises(TypeError):
            is_safe_with(EXAMPLE, RULES, GUARDS, [], 0)
        with self.assertRaises(TypeError):
            cheapest_safe(EXAMPLE, RULES, GUARDS, PRICES, 0)
        self.assertEqual(gaps(EXAMPLE), [])


if __name__ == "__main__":
    unittest.main()
