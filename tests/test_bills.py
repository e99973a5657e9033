"""Bills that barriers cost at least a number ([2], [20])."""

import random
import unittest

from afterfall.barriers import cheapest, gaps
from afterfall.bills import bill, is_bill
from afterfall.errors import InvalidGuards, InvalidNumber, InvalidPrices
from afterfall.plans import Plan
from tests.oracle import (ODD_THINGS, after, all_falls, any_line, barred, inner_lists, is_let, is_shut_out, is_tree,
                          lists_of, shutters_by)
from tests.test_barriers import EXAMPLE, GUARDS, WRONG_PRICES, wall_of_guards
from tests.test_guards import WRONG_GUARDS

PRICES = {1: 5, 2: 3}
SPENT = ("spent",)
WRONG_NUMBERS = [-1, True, False, None, "1", "", (1,), [1], {}, -10 ** 39, {0: 1}]


def changed(chance, thing):
    """A thing with one part changed, left out or put in twice, at any depth."""
    kind = tuple if isinstance(thing, tuple) else list
    if isinstance(thing, (tuple, list)) and thing and chance.random() < 0.75:
        parts, at = list(thing), chance.randrange(len(thing))
        which = chance.random()
        if which < 0.1:
            del parts[at]
        elif which < 0.2:
            parts.insert(at, parts[at])
        elif which < 0.3:
            other = chance.randrange(len(parts))
            parts[at], parts[other] = parts[other], parts[at]
        else:
            parts[at] = changed(chance, parts[at])
        return kind(parts)
    if isinstance(thing, int):
        return chance.choice((thing + 1, thing - 1, 0, bool(thing), str(thing), None))
    if isinstance(thing, (tuple, list)) and chance.random() < 0.3:
        return tuple(thing) if isinstance(thing, list) else list(thing)
    return chance.choice((SPENT, "spent", "found", ["spent"], [], (), None, 0, [thing], ("found", 0, [], [])))


def any_tree(chance, plan, guards, prices, number, chosen=()):
    """A tree in which each fall is taken at random, or None if there is none."""
    if sum(prices[gap] for gap in chosen) >= number:
        return SPENT
    falls = [(guard, fall) for fall in all_falls(barred(plan, chosen)) for guard in range(len(guards))
             if is_let(guards[guard], after(plan, fall))]
    if not falls:
        return None
    guard, fall = chance.choice(falls)
    trees = [any_tree(chance, plan, guards, prices, number, (*chosen, gap)) for gap in shutters_by(plan, fall)]
    return None if None in trees else ("found", guard, fall, trees)


class Examples(unittest.TestCase):
    def test_those_of_the_document(self):
        self.assertIs(is_bill(EXAMPLE, GUARDS, PRICES, 3, ("found", 0, [2], [SPENT, SPENT])), True)
        self.assertEqual([bill(EXAMPLE, GUARDS, PRICES, 4), bill(EXAMPLE, GUARDS, PRICES, 0)], [None, SPENT])

    def test_a_bill_just_up_to_the_least_price(self):
        for number in range(8):
            tree = bill(EXAMPLE, GUARDS, PRICES, number)
            self.assertEqual(tree is None, number > 3)
            if tree is not None:
                self.assertIs(is_bill(EXAMPLE, GUARDS, PRICES, number, tree), True)

    def test_spent_just_where_the_prices_add_up_to_the_number(self):
        self.assertIs(is_bill(EXAMPLE, GUARDS, PRICES, 0, SPENT), True)
        self.assertIs(is_bill(EXAMPLE, GUARDS, PRICES, 1, SPENT), False)
        found = ("found", 0, [2], [SPENT, SPENT])
        for number, wanted in ((0, False), (1, True), (2, True), (3, True), (4, False), (5, False), (6, False)):
            self.assertIs(is_bill(EXAMPLE, GUARDS, PRICES, number, found), wanted, number)
        both = [{0: (0,), 1: (1,)}, {1: (0,), 2: (1,)}]
        deep = ("found", 0, [1], [("found", 1, [0, 2], [SPENT])])
        for number, wanted in ((0, False), (5, False), (6, True), (8, True), (9, False)):
            self.assertIs(is_bill(EXAMPLE, both, PRICES, number, deep), wanted, number)
        self.assertIs(is_bill(EXAMPLE, both, PRICES, 5, ("found", 0, [1], [SPENT])), True)

    def test_a_fall_that_no_gap_shuts(self):
        always = [{0: (5,)}, {0: (1,), 1: (0,)}]
        for number in (1, 2, 8, 9, 1000, 10 ** 39):
            self.assertIs(is_bill(EXAMPLE, always, PRICES, number, ("found", 1, [0], [])), True)
            tree = bill(EXAMPLE, always, PRICES, number)
            self.assertIs(is_bill(EXAMPLE, always, PRICES, number, tree), True)
        self.assertEqual(bill(EXAMPLE, always, PRICES, 0), SPENT)
        self.assertIs(is_bill(EXAMPLE, always, PRICES, 0, ("found", 1, [0], [])), False)
        plan = Plan((0,), 1, [])
        self.assertEqual([bill(plan, [{}], {}, 7), bill(plan, [], {}, 7), bill(plan, [], {}, 0)],
                         [("found", 0, [], []), None, SPENT])

    def test_the_trees_are_those_of_the_gaps_that_shut_the_fall(self):
        both = [{0: (0,), 1: (1,)}, {1: (0,), 2: (1,)}]
        # The fall [2] is shut by 1 and 2, [0, 2] by 2 alone, [1, 2] by 1 alone.
        one = ("found", 0, [1], [("found", 1, [0, 2], [SPENT])])
        two = ("found", 1, [0, 2], [("found", 0, [1], [SPENT])])
        either = ("found", 1, [2], [("found", 1, [0, 2], [SPENT]), ("found", 0, [1], [SPENT])])
        for tree in (one, two, either):
            self.assertIs(is_bill(EXAMPLE, both, PRICES, 8, tree), True)
        for tree in (("found", 1, [2], [("found", 0, [1], [SPENT]), ("found", 1, [0, 2], [SPENT])]),
                     ("found", 1, [2], [("found", 1, [0, 2], [SPENT])]), ("found", 1, [2], []),
                     ("found", 1, [2], [("found", 1, [2], [SPENT]), ("found", 0, [1], [SPENT])]),
                     ("found", 1, [0, 2], [("found", 0, [1, 2], [SPENT])]), ("found", 0, [1], []),
                     ("found", 0, [1], [("found", 1, [0, 2], [])]), ("found", 0, [1], [SPENT]),
                     ("found", 1, [1], [("found", 1, [0, 2], [SPENT])]), ("found", 0, [1], (two,)),
                     ("found", 0, [1], [("found", 0, [1], [SPENT])]), ["found", 0, [1], [("found", 1, [0, 2], [SPENT])]],
                     ("found", 0, (1,), [("found", 1, [0, 2], [SPENT])]), ("found", False, [1], one[3]),
                     ("found", 0, [True], one[3]), ("spent", 0, [1], one[3]), ("Found", 0, [1], one[3]),
                     ("found", 0, [1]), ("found", 0, [1], one[3], []), ("found", 2, [1], one[3]),
                     ("found", -2, [1], one[3]), ("found", 0, [1, 1], one[3]), ("found", 0, [1, 0], one[3])):
            self.assertIs(is_bill(EXAMPLE, both, PRICES, 8, tree), False, tree)


class AgainstAllFalls(unittest.TestCase):
    def test_bills_of_small_plans(self):
        chance = random.Random(56)
        seen = {}
        for _ in range(250):
            plan, guards = any_line(chance, Plan)
            prices = {gap: chance.randint(1, 3) for gap in chance.sample(gaps(plan), len(gaps(plan)))}
            safe = [chosen for chosen in lists_of(gaps(plan)) if is_shut_out(barred(plan, chosen), guards)]
            least = min((sum(prices[gap] for gap in chosen) for chosen in safe), default=None)
            for number in range(8) if least is not None else (0, 3, 99):
                tree = bill(plan, guards, prices, number)
                self.assertEqual(tree is None, least is not None and least < number)
                if tree is not None:
                    seen[repr(tree).count("found")] = True
                    self.assertIs(is_bill(plan, guards, prices, number, tree), True)
                    self.assertTrue(is_tree(plan, guards, prices, number, tree), tree)
                    held = [id(part) for part in inner_lists(tree)]
                    self.assertEqual(len(set(held)), len(held))
        self.assertTrue(len(seen) > 4, seen)

    def test_each_tree_will_do(self):
        chance = random.Random(58)
        sizes = {}
        for _ in range(250):
            plan, guards = any_line(chance, Plan)
            prices = {gap: chance.randint(1, 3) for gap in gaps(plan)}
            number = chance.randint(0, 5)
            tree = any_tree(chance, plan, guards, prices, number)
            self.assertEqual(tree is None, bill(plan, guards, prices, number) is None)
            if tree is not None:
                sizes[repr(tree).count("found")] = True
                self.assertIs(is_bill(plan, guards, prices, number, tree), True)
        self.assertTrue(max(sizes) > 5, sizes)

    def test_changed_bills_are_judged_as_the_conditions_say(self):
        chance = random.Random(57)
        seen = {True: 0, False: 0}
        while seen[False] < 2500:
            plan, guards = any_line(chance, Plan)
            prices = {gap: chance.randint(1, 3) for gap in gaps(plan)}
            number = chance.randint(1, 6)
            tree = None
            while tree is None:
                number -= 1
                tree = any_tree(chance, plan, guards, prices, number)
            for _ in range(15):
                thing = changed(chance, tree)
                if chance.random() < 0.3:
                    thing = changed(chance, thing)
                asked = max(0, number + chance.choice((-1, 0, 0, 0, 1)))
                wanted = is_tree(plan, guards, prices, asked, thing)
                seen[wanted] += 1
                self.assertIs(is_bill(plan, guards, prices, asked, thing), wanted, thing)
        self.assertTrue(seen[True] > 60, seen)


class LargePlans(unittest.TestCase):
    def test_eight_gaps_and_thirty_two_steps(self):
        steps = [(cell, (1,)) for cell in range(9)] + [None] + [(9, (1,)), None] * 11
        plan = Plan((0,) * 10, 1, steps)
        self.assertEqual([gaps(plan), len(plan.steps)], [list(range(1, 9)), 32])
        prices = {gap: 900 + gap for gap in range(1, 9)}
        total = sum(prices.values())
        for guards, least in ((wall_of_guards(9), total), ([{0: (0,), 8: (1,)}], 901), ([], 0),
                              ([{low: (0,), low + 4: (1,)} for low in range(5)], 901 + 905),
                              (wall_of_guards(9) + [{9: (0,), 3: (1,), 4: (0,)}], None)):
            if least is not None:
                self.assertEqual(cheapest(plan, guards, prices)[0], least)
            for number in {0, 1, least or 5000, (least or 5000) + 1, 10 ** 39}:
                tree = bill(plan, guards, prices, number)
                self.assertEqual(tree is None, least is not None and number > least)
                if tree is not None:
                    self.assertIs(is_bill(plan, guards, prices, number, tree), True)
                    if least is not None:
                        self.assertIs(is_bill(plan, guards, prices, total + 1, tree), False)


class Rest(unittest.TestCase):
    def test_errors_in_their_order(self):
        calls = (bill, lambda plan, guards, prices, number: is_bill(plan, guards, prices, number, SPENT),
                 lambda plan, guards, prices, number: is_bill(plan, guards, prices, number, None))
        wrong = [guards for guards in WRONG_GUARDS if not isinstance(guards, list) or {2: (0,)} not in guards]
        for call in calls:
            for guards in wrong + ODD_THINGS + [[{3: (0,)}]]:
                for prices, number in ((PRICES, 1), (None, -1), (PRICES, None), ({}, 1)):
                    with self.assertRaises(InvalidGuards, msg=repr(guards)[:60]):
                        call(EXAMPLE, guards, prices, number)
            for prices in WRONG_PRICES + ODD_THINGS:
                for number in (1, -1, None):
                    with self.assertRaises(InvalidPrices, msg=repr(prices)[:60]):
                        call(EXAMPLE, GUARDS, prices, number)
            for number in WRONG_NUMBERS + [odd for odd in ODD_THINGS if odd != 10 ** 40 - 1]:
                with self.assertRaises(InvalidNumber, msg=repr(number)[:60]):
                    call(EXAMPLE, GUARDS, PRICES, number)

    def test_numbers_of_any_size(self):
        self.assertIsNone(bill(EXAMPLE, GUARDS, PRICES, 10 ** 40 - 1))
        self.assertIs(is_bill(EXAMPLE, GUARDS, PRICES, 10 ** 40 - 1, SPENT), False)
        self.assertIs(is_bill(EXAMPLE, [{}], PRICES, 10 ** 40 - 1, ("found", 0, [], [])), True)

    def test_any_object_is_judged(self):
        for thing in ODD_THINGS + [None, [], {}, (), "spent", ["spent"], ("spent", "spent"), ("spent", []), (("spent",),)]:
            for number in (0, 1, 3):
                self.assertIs(is_bill(EXAMPLE, GUARDS, PRICES, number, thing), False)
            self.assertIs(is_bill(EXAMPLE, GUARDS, PRICES, 3, ("found", 0, [2], [SPENT, thing])), False)
            self.assertIs(is_bill(EXAMPLE, GUARDS, PRICES, 3, ("found", 0, [2], thing)), False)
            self.assertIs(is_bill(EXAMPLE, GUARDS, PRICES, 3, ("found", 0, thing, [SPENT, SPENT])), False)
            self.assertIs(is_bill(EXAMPLE, GUARDS, PRICES, 3, ("found", 0, [thing], [SPENT, SPENT])), False)
            self.assertIs(is_bill(EXAMPLE, GUARDS, PRICES, 3, ("found", thing, [2], [SPENT, SPENT])), False)
            self.assertIs(is_bill(EXAMPLE, GUARDS, PRICES, 3, (thing, 0, [2], [SPENT, SPENT])), False)
            self.assertIs(is_bill(EXAMPLE, GUARDS, PRICES, 0, (thing,)), thing == "spent")

    def test_a_tree_that_is_too_deep(self):
        thing = SPENT
        for _ in range(19):
            thing = ("found", 0, [2], [thing, thing])
        self.assertIs(is_bill(EXAMPLE, GUARDS, PRICES, 3, thing), False)

    def test_arguments_stay_and_results_are_new(self):
        guards, prices = [{2: (1,), 0: (0,)}], {2: 3, 1: 5}
        tree = bill(EXAMPLE, guards, prices, 3)
        is_bill(EXAMPLE, guards, prices, 3, tree)
        before = repr(tree)
        tree[2].clear()
        tree[3].clear()
        self.assertEqual(repr(bill(EXAMPLE, guards, prices, 3)), before)
        self.assertEqual([[list(guard) for guard in guards], list(prices.items())], [[[2, 0]], [(2, 3), (1, 5)]])

    def test_arguments_count_as_they_stand_at_the_call(self):
        guards, prices, tree = [{0: (0,), 2: (1,)}], {1: 5, 2: 3}, ("found", 0, [2], [SPENT, SPENT])
        self.assertEqual([bill(EXAMPLE, guards, prices, 4), is_bill(EXAMPLE, guards, prices, 4, tree)], [None, False])
        prices[2] = 4
        self.assertIs(is_bill(EXAMPLE, guards, prices, 4, tree), True)
        self.assertIsNotNone(bill(EXAMPLE, guards, prices, 4))
        guards[0][0] = (1,)
        self.assertIs(is_bill(EXAMPLE, guards, prices, 4, tree), False)

    def test_by_name(self):
        self.assertEqual(bill(number=0, prices=PRICES, guards=GUARDS, plan=EXAMPLE), SPENT)
        self.assertIs(is_bill(thing=SPENT, number=0, prices=PRICES, guards=GUARDS, plan=EXAMPLE), True)


if __name__ == "__main__":
    unittest.main()
