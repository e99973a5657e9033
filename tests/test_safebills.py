"""Bills that barriers with which no history does harm cost at least a number ([2], [31])."""

import random
import unittest

from afterfall.errors import Always, InvalidGuards, InvalidNumber, InvalidPrices, InvalidRules, TooMany
from afterfall.plans import Plan
from afterfall.safebills import is_safe_bill, safe_bill
from afterfall.safegaps import cheapest_safe, safe_gaps
from tests.histories import (Ways, all_barred, any_case, broken_in, enough_lists, every_gap, is_bill_tree, rule_of,
                             shutters_of_all)
from tests.oracle import ODD_THINGS, after, inner_lists, is_let, restart_for
from tests.test_bills import WRONG_NUMBERS, changed
from tests.test_guards import WRONG_GUARDS
from tests.test_restarts import WRONG_RULES, counted
from tests.test_safegaps import EXAMPLE, GUARDS, PRICES, RULES, WRONG_FALLS, WRONG_PRICES, wide_case

SPENT = ("spent",)
TREE = ("unsafe", 0, [[0], [1]], [SPENT])


def any_harm(chance, plan, rules, guards, falls, most=6):
    """An index and a history that does harm, drawn fall by fall, or None if none was met."""
    ways = Ways(plan, rules)
    for _ in range(40):
        history, runs, ahead = [], plan, None
        while runs is not None and len(history) < most:
            history.append(chance.choice([fall for some in ways.falls[ahead].values() for fall in some]))
            ahead = after(runs, history[-1])
            runs = ways.runs.get(ahead)
        met = [index for index, guard in enumerate(guards) if is_let(guard, ahead)]
        if runs is None and met and (falls is None or broken_in(plan, rules, history) <= falls):
            return chance.choice(met), history
    return None


def any_tree(chance, plan, rules, guards, prices, number, falls, chosen=()):
    """A tree in which each history is drawn, or None if none was met."""
    if sum(prices[gap] for gap in chosen) >= number:
        return SPENT
    harm = any_harm(chance, *all_barred(plan, rules, chosen), guards, falls)
    if harm is None:
        return None
    trees = []
    for gap in shutters_of_all(plan, rules, harm[1]):
        trees.append(any_tree(chance, plan, rules, guards, prices, number, falls, (*chosen, gap)))
        if trees[-1] is None:
            return None
    return ("unsafe", *harm, trees)


class Examples(unittest.TestCase):
    def test_those_of_the_document(self):
        self.assertIs(is_safe_bill(EXAMPLE, RULES, GUARDS, PRICES, 7, TREE), True)
        self.assertEqual([safe_bill(EXAMPLE, RULES, GUARDS, PRICES, 8), safe_bill(EXAMPLE, RULES, GUARDS, PRICES, 0)],
                         [None, SPENT])

    def test_spent_just_where_the_prices_add_up_to_the_number(self):
        for number, wanted in ((0, False), (1, True), (6, True), (7, True), (8, False), (10 ** 39, False)):
            self.assertIs(is_safe_bill(EXAMPLE, RULES, GUARDS, PRICES, number, TREE), wanted, number)
            self.assertIs(is_safe_bill(EXAMPLE, RULES, GUARDS, PRICES, number, SPENT), number == 0)
            tree = safe_bill(EXAMPLE, RULES, GUARDS, PRICES, number)
            self.assertEqual(tree is None, number > 7)
            if tree is not None:
                self.assertIs(is_safe_bill(EXAMPLE, RULES, GUARDS, PRICES, number, tree), True)

    def test_a_history_that_no_gap_shuts(self):
        for number in (1, 7, 8, 10 ** 39, 10 ** 40 - 1):
            tree = safe_bill(EXAMPLE, RULES, [{0: (0,), 1: (1,)}], PRICES, number)
            self.assertIs(is_safe_bill(EXAMPLE, RULES, [{0: (0,), 1: (1,)}], PRICES, number, tree), True)
            self.assertIs(is_safe_bill(EXAMPLE, RULES, [{0: (0,), 1: (1,)}], PRICES, number,
                                       ("unsafe", 0, [[0], [0], [0, 1]], [])), True)
        self.assertEqual([safe_bill(Plan((0,), 1, []), [], [{}], {}, 7), safe_bill(Plan((0,), 1, []), [], [], {}, 7)],
                         [("unsafe", 0, [[]], []), None])

    def test_the_conditions_one_by_one(self):
        for thing in (("unsafe", 0, [[0], [1]], []), ("unsafe", 0, [[0], [1]], [SPENT, SPENT]), ("unsafe", 0, [[0], [1]], SPENT),
                      ("unsafe", 0, [[0], [1]], (SPENT,)), ("unsafe", 1, [[0], [1]], [SPENT]), ("unsafe", -1, [[0], [1]], [SPENT]),
                      ("unsafe", False, [[0], [1]], [SPENT]), ("unsafe", 0, ([0], [1]), [SPENT]), ("unsafe", 0, [(0,), [1]], [SPENT]),
                      ("unsafe", 0, [[False], [1]], [SPENT]), ("unsafe", 0, [[0], [True]], [SPENT]), ("unsafe", 0, [[0]], [SPENT]),
                      ("unsafe", 0, [[0], [0, 1]], []), ("unsafe", 0, [[0], [1, 0]], [SPENT]), ("unsafe", 0, [[]], []),
                      ("unsafe", 0, [], []), ("unsafe", 0, [[0], [1], []], [SPENT]), ("unsafe", 0, [[0], [2]], [SPENT]),
                      ("found", 0, [[0], [1]], [SPENT]), ("unsafe", 0, [[0], [1]]), ("unsafe", 0, [[0], [1]], [SPENT], []),
                      ["unsafe", 0, [[0], [1]], [SPENT]], ("unsafe", 0, [[0], [1]], [("spent", 0)]),
                      ("unsafe", 0, [[0], [1]], [["spent"]]), ("unsafe", 0, [[0], [1]], ["spent"]),
                      ("unsafe", 0, [[0], [1]], [TREE]), ("unsafe", 0, [[0], [0], [1]], [SPENT]), ("unsafe", 0, [[0], [], [1]], [SPENT])):
            wanted = is_bill_tree(EXAMPLE, RULES, GUARDS, PRICES, 7, thing)
            self.assertIs(is_safe_bill(EXAMPLE, RULES, GUARDS, PRICES, 7, thing), wanted, thing)
            self.assertIs(wanted, thing[2:3] == ([[0], [], [1]],), thing)

    def test_a_history_that_a_gap_on_the_way_shuts(self):
        for number in (8, 14):
            thing = ("unsafe", 0, [[0], [1]], [TREE])
            self.assertIs(is_safe_bill(EXAMPLE, RULES, GUARDS, PRICES, number, thing), False)
            self.assertIs(is_bill_tree(EXAMPLE, RULES, GUARDS, PRICES, number, thing), False)
        both = GUARDS + [{0: (0,), 1: (1,)}]
        thing = ("unsafe", 0, [[0], [1]], [("unsafe", 1, [[0], [0, 1]], [])])
        self.assertIs(is_safe_bill(EXAMPLE, RULES, both, PRICES, 8, thing), True)
        self.assertIs(is_safe_bill(EXAMPLE, RULES, both, PRICES, 8, ("unsafe", 0, [[0], [1]], [("unsafe", 1, [[0], [1, 0]], [])])),
                      False)

    def test_a_history_that_does_not_end_at_rest(self):
        for history in ([[0]], [[0], []], [[0], [0]]):
            self.assertIs(is_safe_bill(EXAMPLE, RULES, [{0: (1,)}], PRICES, 1, ("unsafe", 0, history, [])), False)
            self.assertIs(is_safe_bill(EXAMPLE, [], [{0: (1,)}], {}, 1, ("unsafe", 0, history, [])), len(history) == 1)

    def test_numbers_of_falls(self):
        for falls, wanted in ((None, True), (0, False), (1, True), (2, True), (10 ** 39, True)):
            self.assertIs(is_safe_bill(EXAMPLE, RULES, GUARDS, PRICES, 7, TREE, falls=falls), wanted)
            self.assertEqual(safe_bill(EXAMPLE, RULES, GUARDS, PRICES, 7, falls=falls) is not None, wanted)
            self.assertEqual(safe_bill(EXAMPLE, RULES, GUARDS, PRICES, 0, falls=falls), SPENT)
        twice = ("unsafe", 0, [[0], [], [1]], [SPENT])
        for falls, wanted in ((None, True), (0, False), (1, False), (2, True)):
            self.assertIs(is_safe_bill(EXAMPLE, RULES, GUARDS, PRICES, 7, twice, falls=falls), wanted)


class AgainstAllHistories(unittest.TestCase):
    def test_bills_of_small_plans(self):
        chance, seen = random.Random(92), {}
        for _ in range(160):
            plan, rules, guards = any_case(chance, Plan)
            prices = {gap: chance.randint(1, 3) for gap in every_gap(plan, rules)}
            for falls in (None, 0, 1, 2):
                least = min((sum(prices[gap] for gap in chosen) for chosen in enough_lists(plan, rules, guards, falls)),
                            default=None)
                for number in sorted({0, 1, 2, least or 4, (least or 99) + 1}):
                    tree = safe_bill(plan, rules, guards, prices, number, falls=falls)
                    self.assertEqual(tree is None, least is not None and least < number)
                    if tree is not None:
                        seen[repr(tree).count("unsafe")] = True
                        self.assertIs(is_safe_bill(plan, rules, guards, prices, number, tree, falls=falls), True)
                        self.assertTrue(is_bill_tree(plan, rules, guards, prices, number, tree, falls))
                        held = [id(part) for part in inner_lists(tree)]
                        self.assertEqual(len(set(held)), len(held))
        self.assertTrue(len(seen) > 3, seen)

    def test_each_tree_will_do_and_changed_ones_are_judged_as_the_conditions_say(self):
        chance, seen, sizes = random.Random(93), {True: 0, False: 0}, {}
        while seen[False] < 900:
            plan, rules, guards = any_case(chance, Plan)
            prices = {gap: chance.randint(1, 3) for gap in every_gap(plan, rules)}
            number, falls = chance.randint(1, 6), chance.choice((None, None, 0, 1, 2))
            tree = any_tree(chance, plan, rules, guards, prices, number, falls)
            if tree is None:
                continue
            self.assertIs(is_safe_bill(plan, rules, guards, prices, number, tree, falls=falls), True)
            self.assertIsNotNone(safe_bill(plan, rules, guards, prices, number, falls=falls))
            sizes[repr(tree).count("unsafe")] = True
            for _ in range(10):
                thing = changed(chance, tree)
                if chance.random() < 0.3:
                    thing = changed(chance, thing)
                asked = max(0, number + chance.choice((-1, 0, 0, 0, 1)))
                most = falls if chance.random() < 0.7 else chance.choice((None, 0, 1, 2))
                wanted = is_bill_tree(plan, rules, guards, prices, asked, thing, most)
                seen[wanted] += 1
                self.assertIs(is_safe_bill(plan, rules, guards, prices, asked, thing, falls=most), wanted, thing)
        self.assertTrue(seen[True] > 40 and max(sizes) > 2, (seen, sizes))


class LargeCases(unittest.TestCase):
    def test_eight_gaps_twelve_pieces_and_dozens_of_contents(self):
        chance, sizes = random.Random(94), {}
        for turn in range(40):
            plan, rules, guards = wide_case(chance)
            prices = {gap: chance.randint(1, 1 if turn % 2 else 999) for gap in safe_gaps(plan, rules)}
            for falls in (None, 1):
                try:
                    price = cheapest_safe(plan, rules, guards, prices, falls=falls)[0]
                except Always:
                    price = None
                for number in {1, price or 5, (price or 5000) + 1}:
                    tree = safe_bill(plan, rules, guards, prices, number, falls=falls)
                    self.assertEqual(tree is None, price is not None and number > price)
                    if tree is not None:
                        sizes[repr(tree).count("unsafe")] = True
                        self.assertIs(is_safe_bill(plan, rules, guards, prices, number, tree, falls=falls), True)
        self.assertTrue(max(sizes) > 3, sizes)

    def test_a_large_tree_in_which_histories_stand_many_times(self):
        # Each guard is shut out by one gap alone; a history that more gaps shut makes the tree wider.
        plan = Plan((0,) * 5, 1, [(cell, (1,)) for cell in range(5)])
        rules = [({cell: (1,) for cell in range(5)}, [(4 - cell, (0,)) for cell in range(5)])]
        guards = [{cell: (0,), cell + 1: (1,)} for cell in range(4)]
        able = safe_gaps(plan, rules)
        prices = {gap: 1 for gap in able}
        self.assertEqual(len(able), 8)

        def grown(chosen):
            """A tree in which each history is shut by as many gaps as can be, the plan's ones first."""
            if len(chosen) == 8:
                return SPENT
            first = [gap for gap in range(1, 5) if (0, gap) not in chosen]
            second = [gap for gap in range(1, 5) if (1, gap) not in chosen]
            if first:
                history = [list(range(first[0] - 1)) + list(range(first[0], first[-1] + 1))]
                history = history if len(first) > 1 else [[*range(first[0] - 1), first[0]]]
            else:
                history = [list(range(5)), [*range(second[0] - 1), second[0]]]
            history = fitting(history, chosen)
            gaps = shutters_of_all(plan, rules, history)
            index = next(at for at, guard in enumerate(guards) if is_let(guard, behind(history)))
            return ("unsafe", index, history, [grown((*chosen, gap)) for gap in gaps])

        def behind(history):
            content = after(plan, history[0])
            return content if len(history) == 1 else after(restart_for(plan, rules, content), history[1])

        def fitting(history, chosen):
            last = [piece for piece in range(5) if piece not in history[-1]][0]
            blocked = [gap for place, gap in chosen if place == len(history) - 1 and gap > last + 1]
            end = min(blocked, default=5)
            return history[:-1] + [[piece for piece in history[-1] if piece < end]]

        tree = grown(())
        self.assertTrue(repr(tree).count("unsafe") > 8)
        for number, wanted in ((8, True), (9, False), (7, False)):
            self.assertIs(is_safe_bill(plan, rules, guards, prices, number, tree), wanted)
            self.assertIs(is_bill_tree(plan, rules, guards, prices, number, tree), wanted)
        self.assertEqual(rule_of(rules, (1,) * 5), 0)


class Rest(unittest.TestCase):
    def calls(self):
        return (safe_bill, lambda plan, rules, guards, prices, number, falls=None: is_safe_bill(
            plan, rules, guards, prices, number, TREE, falls=falls),
            lambda plan, rules, guards, prices, number, falls=None: is_safe_bill(
                plan, rules, guards, prices, number, None, falls=falls))

    def test_errors_in_their_order(self):
        plan, rules = counted(100)
        free = {gap: 1 for gap in safe_gaps(plan, rules)}
        for call in self.calls():
            for wrong in WRONG_RULES + ODD_THINGS:
                for more in ((GUARDS, PRICES, 1, None), (None, None, None, -1)):
                    with self.assertRaises(InvalidRules, msg=repr(wrong)[:60]):
                        call(EXAMPLE, wrong, *more[:3], falls=more[3])
            for wrong in WRONG_GUARDS + ODD_THINGS:
                for more in ((PRICES, 1, None), (None, None, -1)):
                    with self.assertRaises(InvalidGuards, msg=repr(wrong)[:60]):
                        call(EXAMPLE, RULES, wrong, *more[:2], falls=more[2])
            for wrong in WRONG_PRICES + ODD_THINGS:
                for number, falls in ((1, None), (None, -1)):
                    with self.assertRaises(InvalidPrices, msg=repr(wrong)[:60]):
                        call(EXAMPLE, RULES, GUARDS, wrong, number, falls=falls)
            for wrong in WRONG_NUMBERS + [odd for odd in ODD_THINGS if odd != 10 ** 40 - 1]:
                for falls in (None, 1, -1):
                    with self.assertRaises(InvalidNumber, msg=repr(wrong)[:60]):
                        call(EXAMPLE, RULES, GUARDS, PRICES, wrong, falls=falls)
                    with self.assertRaises(InvalidNumber, msg=repr(wrong)[:60]):
                        call(plan, rules, [], free, wrong, falls=falls)
            for wrong in WRONG_FALLS + [odd for odd in ODD_THINGS if odd != 10 ** 40 - 1]:
                with self.assertRaises(InvalidNumber, msg=repr(wrong)[:60]):
                    call(EXAMPLE, RULES, GUARDS, PRICES, 1, falls=wrong)
                with self.assertRaises(InvalidNumber, msg=repr(wrong)[:60]):
                    call(plan, rules, [], free, 0, falls=wrong)
            for number in (0, 1):
                with self.assertRaises(TooMany):
                    call(plan, rules, [], free, number)

    def test_any_object_is_judged(self):
        def judged(number, thing):
            return is_safe_bill(EXAMPLE, RULES, GUARDS, PRICES, number, thing)
        for thing in ODD_THINGS + [None, [], {}, (), "spent", ["spent"], ("spent", "spent"), (SPENT,), ("unsafe",), GUARDS]:
            for number in (0, 1, 7):
                self.assertIs(judged(number, thing), False, repr(thing)[:60])
            for other in (("unsafe", 0, [[0], [1]], [thing]), ("unsafe", 0, [[0], [1]], thing), ("unsafe", 0, thing, [SPENT]),
                          ("unsafe", 0, [thing], [SPENT]), ("unsafe", 0, [[0], thing], [SPENT]),
                          ("unsafe", 0, [[0], [thing]], [SPENT]), ("unsafe", thing, [[0], [1]], [SPENT]),
                          (thing, 0, [[0], [1]], [SPENT]), (thing,)):
                self.assertIs(judged(7, other), False, repr(other)[:60])
        self.assertIs(judged(7, TREE), True)

    def test_a_tree_that_is_too_deep(self):
        thing = SPENT
        for _ in range(19):
            thing = ("unsafe", 0, [[0], [1]], [thing])
        self.assertIs(is_safe_bill(EXAMPLE, RULES, GUARDS, PRICES, 7, thing), False)

    def test_a_long_history(self):
        tree = ("unsafe", 0, [[0]] + [[]] * 2400 + [[1]], [SPENT])
        self.assertIs(is_safe_bill(EXAMPLE, RULES, GUARDS, PRICES, 7, tree), True)
        self.assertIs(is_safe_bill(EXAMPLE, RULES, GUARDS, PRICES, 7, tree, falls=2401), True)
        self.assertIs(is_safe_bill(EXAMPLE, RULES, GUARDS, PRICES, 7, tree, falls=2400), False)

    def test_arguments_stay_and_results_are_new(self):
        rules, guards, prices = [({0: (1,)}, [(1, (1,)), (0, (0,))])], [{1: (0,), 0: (0,)}], {(1, 1): 7}
        tree = safe_bill(EXAMPLE, rules, guards, prices, 7)
        is_safe_bill(EXAMPLE, rules, guards, prices, 7, tree)
        before = repr(tree)
        tree[2][0].clear()
        tree[2].clear()
        tree[3].clear()
        self.assertEqual(repr(safe_bill(EXAMPLE, rules, guards, prices, 7)), before)
        self.assertEqual([rules, guards, prices, list(guards[0])], [RULES, GUARDS, PRICES, [1, 0]])
        prices[(1, 1)] = 6
        self.assertEqual([safe_bill(EXAMPLE, rules, guards, prices, 7), is_safe_bill(EXAMPLE, rules, guards, prices, 7, TREE)],
                         [None, False])

    def test_by_name(self):
        self.assertEqual(safe_bill(falls=3, number=0, prices=PRICES, guards=GUARDS, rules=RULES, plan=EXAMPLE), SPENT)
        self.assertIs(is_safe_bill(falls=None, thing=TREE, number=7, prices=PRICES, guards=GUARDS, rules=RULES, plan=EXAMPLE),
                      True)
        with self.assertRaises(TypeError):
            safe_bill(EXAMPLE, RULES, GUARDS, PRICES, 0, None)
        with self.assertRaises(TypeError):
            is_safe_bill(EXAMPLE, RULES, GUARDS, PRICES, 0, SPENT, None)


if __name__ == "__main__":
    unittest.main()
