"""What histories lead to: harm, closed lists, contents at rest and circles ([2], [23])."""

import random
import unittest

from afterfall.plans import Plan
from afterfall.restarts import (circle, closed, is_circle, is_closed, is_rests, is_unsafe, reached, rests, unsafe)
from tests.oracle import (ODD_THINGS, any_guards, any_pattern, any_plan, any_rules, contents_of, found_at_the_end,
                          inner_lists, is_circle_list, is_closed_list, is_let, is_rest_dict, is_whole, reached_by,
                          restart_for, whole_contents)
from tests.test_restarts import EXAMPLE, ROUND, RULES, any_history, changed_history, counted


def harmed(plan, rules, guards):
    """The indexes of the guards that content at rest matches that is reached."""
    resting = [content for content, runs in reached_by(plan, rules).items() if runs is None]
    return [index for index, guard in enumerate(guards) if any(is_let(guard, content) for content in resting)]


def does_harm(plan, rules, guards, thing):
    """Whether a thing is a tuple of an index and of a history to content at rest, condition by condition."""
    if not isinstance(thing, tuple) or len(thing) != 2:
        return False
    content = found_at_the_end(plan, rules, thing[1])
    if content is None or not is_whole(thing[0]) or not 0 <= thing[0] < len(guards):
        return False
    return restart_for(plan, rules, content) is None and is_let(guards[thing[0]], content)


def turns(plan, rules):
    """Whether restarts that do not fall can go round, by walks that take away what leads nowhere."""
    going = {content: runs for content, runs in reached_by(plan, rules).items() if runs is not None}
    while True:
        ends = [content for content, runs in going.items() if not whole_contents(runs) & set(going)]
        if not ends:
            return bool(going)
        for content in ends:
            del going[content]


class Unsafe(unittest.TestCase):
    def test_the_example(self):
        self.assertIsNone(unsafe(EXAMPLE, RULES, [{0: (0,), 1: (2,)}]))

    def test_only_content_at_rest_counts(self):
        self.assertIsNone(unsafe(EXAMPLE, RULES, [{0: (1,)}, {0: (1,), 1: (1,)}]))
        for guards, index, ends in (([{0: (1,)}, {1: (1,)}], 1, (0, 1)), ([{0: (0,)}], 0, None), ([{}], 0, None),
                                    ([{0: (1,)}] * 98 + [{0: (0,), 1: (0,)}], 98, (0, 0))):
            guard, history = unsafe(EXAMPLE, RULES, guards)
            self.assertEqual(guard, index)
            self.assertIs(is_unsafe(EXAMPLE, RULES, guards, (guard, history)), True)
            self.assertIn(found_at_the_end(EXAMPLE, RULES, history), [ends] if ends else [(0, 0), (0, 1)])

    def test_any_guard_and_any_history_are_judged(self):
        guards = [{0: (0,)}, {1: (1,)}, {}]
        for thing, wanted in (((0, [[]]), True), ((2, [[]]), True), ((1, [[]]), False), ((1, [[0], [0, 1]]), True),
                              ((0, [[0], [], [0], [0, 1]]), True), ((2, [[0], [0]]), False), ((2, [[0]]), False),
                              ((0, [[0], [0, 1], []]), False), ((3, [[]]), False), ((-1, [[]]), False), ((0, []), False),
                              ((True, [[0], [0, 1]]), False), ((False, [[]]), False), ([0, [[]]], False), ((0,), False),
                              ((0, [[]], 0), False), ((0, ([],)), False), ((0, [()]), False), ((0, None), False),
                              ((0, [[False], [0, 1]]), False), (None, False), (0, False), ({}, False)):
            self.assertIs(is_unsafe(EXAMPLE, RULES, guards, thing), wanted, thing)

    def test_no_guards(self):
        self.assertIsNone(unsafe(EXAMPLE, RULES, []))
        self.assertIs(is_unsafe(EXAMPLE, RULES, [], (0, [[]])), False)

    def test_small_plans(self):
        chance = random.Random(63)
        seen, lengths = {}, {}
        for _ in range(300):
            plan = any_plan(chance, Plan, 3)
            rules, guards = any_rules(chance, plan), any_guards(chance, len(plan.base), 3)
            wanted = harmed(plan, rules, guards)
            told = unsafe(plan, rules, guards)
            self.assertEqual(None if told is None else told[0], wanted[0] if wanted else None)
            seen[None if told is None else told[0]] = True
            things = [(chance.randint(-1, 3), any_history(chance, plan, rules)) for _ in range(3)]
            if told is not None:
                lengths[len(told[1])] = True
                self.assertTrue(does_harm(plan, rules, guards, told))
                self.assertIs(is_unsafe(plan, rules, guards, told), True)
                things.extend((told[0], changed_history(chance, told[1])) for _ in range(4))
            for thing in things:
                self.assertIs(is_unsafe(plan, rules, guards, thing), does_harm(plan, rules, guards, thing), thing)
        self.assertTrue(len(seen) > 3 and len(lengths) > 1, (seen, lengths))

    def test_a_way_through_many_restarts(self):
        # A counter in two cells goes up step by step; only its end is at rest.
        plan = Plan((0, 0), 1, [])
        rules = [({0: (low,), 1: (7,)}, [(0, (low + 1,)), None, (1, (0,))]) for low in range(2)]
        rules += [({1: (worth,)}, [(1, (worth + 1,))]) for worth in range(6)]
        guard, history = unsafe(plan, rules, [{1: (6,)}])
        self.assertEqual([guard, history], [0, [[]] + [[0]] * 6])
        self.assertEqual(closed(plan, rules, [{1: (7,)}]), [(0, worth) for worth in range(7)])
        self.assertEqual(rests(plan, rules), {(0, worth): 5 - worth for worth in range(6)})


class Closed(unittest.TestCase):
    def test_the_example(self):
        self.assertIsNone(closed(EXAMPLE, RULES, [{0: (0,), 1: (1,)}]))

    def test_a_paper_that_there_is_none(self):
        guards = [{0: (0,), 1: (2,)}]
        whole = [(0, 0), (0, 1), (1, 0), (1, 1)]
        self.assertIs(is_closed(EXAMPLE, RULES, guards, closed(EXAMPLE, RULES, guards)), True)
        for thing, wanted in ((whole, True), (whole + [(2, 0)], True), (whole + [(1, 7)], True), (whole[1:], False),
                              (whole[:3], False), (whole[:2] + whole[3:], False), (whole[:1] + whole[2:], False),
                              (whole[::-1], False), (whole + whole[3:], False), (whole[:1] + whole, False), ([], False),
                              (tuple(whole), False), (whole + [(0, 2)], False), (whole[:2] + [(0, 2)] + whole[2:], False),
                              (whole[:2] + [(0, 3)] + whole[2:], True), (whole + [(1, 2)], True),
                              (whole[:2] + [(0, 2)] + whole[2:] + [(1, 2)], False), (whole + [(2,)], False),
                              (whole + [(2, 0, 0)], False), (whole + [(2, 8)], False), (whole + [(2, True)], False),
                              (whole[:3] + [(True, 1)], False), (whole + [[2, 0]], False), (whole + [None], False),
                              (dict.fromkeys(whole), False), (None, False)):
            self.assertIs(is_closed(EXAMPLE, RULES, guards, thing), wanted, thing)
            self.assertIs(is_closed_list(EXAMPLE, RULES, guards, thing), wanted, thing)

    def test_at_most_ninety_nine(self):
        every = [(one, two) for one in range(2, 8) for two in range(8)] + [(1, 0), (1, 1), (0, 0), (0, 1)]
        plan = Plan((0, 0, 0), 1, [(0, (1,))])
        listed = sorted((one, two, three) for one, two in every for three in (range(2) if one > 1 else [0]))
        self.assertEqual(len(listed), 100)
        self.assertIs(is_closed(plan, [], [{0: (1,), 1: (5,)}], listed), False)
        for at in (5, 99):
            self.assertIs(is_closed(plan, [], [{0: (1,), 1: (5,)}], listed[:at] + listed[at + 1:]), True)

    def test_content_that_is_not_reached_counts_where_it_is_listed(self):
        rules = RULES + [({0: (5,)}, [(0, (6,))])]
        whole = [(0, 0), (0, 1), (1, 0), (1, 1)]
        for more, wanted in (([(5, 0)], False), ([(5, 0), (6, 0)], True), ([(6, 0)], True), ([(6, 1)], False),
                             ([(5, 1), (6, 1)], False), ([(7, 0)], True)):
            self.assertIs(is_closed(EXAMPLE, rules, [{0: (6,), 1: (1,)}], whole + more), wanted, more)

    def test_small_plans(self):
        chance = random.Random(64)
        seen, judged = {True: 0, False: 0}, {True: 0, False: 0}
        for _ in range(300):
            plan = any_plan(chance, Plan, 3)
            rules, guards = any_rules(chance, plan), any_guards(chance, len(plan.base), 2)
            paper, told = closed(plan, rules, guards), unsafe(plan, rules, guards)
            seen[paper is None] += 1
            self.assertEqual(paper is None, told is not None)
            if paper is not None:
                self.assertIs(is_closed(plan, rules, guards, paper), True)
                self.assertTrue(is_closed_list(plan, rules, guards, paper))
            for _ in range(6):
                thing = list(reached(plan, rules))
                for _ in range(chance.randint(0, 2)):
                    if thing and chance.random() < 0.4:
                        thing.remove(chance.choice(thing))
                    else:
                        thing.append(tuple(chance.randrange(4) for _ in plan.base))
                thing = sorted(set(thing)) if chance.random() < 0.9 else thing
                wanted = is_closed_list(plan, rules, guards, thing)
                judged[wanted] += 1
                self.assertIs(is_closed(plan, rules, guards, thing), wanted)
        self.assertTrue(min(seen.values()) > 80 and min(judged.values()) > 200, (seen, judged))

    def test_a_list_that_is_as_long_as_can_be(self):
        plan, rules = counted(99)
        paper = closed(plan, rules, [{7: (1,)}])
        self.assertEqual([len(paper), paper], [99, reached(plan, rules)])
        self.assertIs(is_closed(plan, rules, [{7: (1,)}], paper), True)
        self.assertIs(is_closed(plan, rules, [{7: (1,)}], paper[:-1]), False)
        self.assertIs(is_closed(counted(100)[0], counted(100)[1], [], paper), False)


class Rests(unittest.TestCase):
    def test_numbers_that_get_less(self):
        self.assertEqual(list(rests(EXAMPLE, RULES)), [(1, 0), (1, 1)])
        for thing, wanted in (({(1, 0): 0, (1, 1): 0}, True), ({(1, 1): 7, (1, 0): 10 ** 39}, True), ({}, False),
                              ({(1, 0): 0}, False), ({(1, 0): 0, (1, 1): 0, (0, 0): 1}, False),
                              ({(1, 0): 0, (1, 1): -1}, False), ({(1, 0): 0, (1, 1): True}, False),
                              ({(1, 0): 0, (1, 1): None}, False), ({(1, 0): 0, (1, 1): "0"}, False),
                              ({(1, 0): 0, (True, True): 0}, False), ({(1, False): 0, (1, 1): 0}, False),
                              ({(1, 0): 0, (1, 1): 0, (1,): 0}, False), ({(1, 0): 0, (1, 1): 0, "a": 0}, False),
                              ({(1, 0): 0, (1, 1): 0, 0: 0}, False), ({(1, 0): 0, (1, 1): 0, (1, 2): 0}, False),
                              ([((1, 0), 0), ((1, 1), 0)], False), (None, False), ([(1, 0), (1, 1)], False)):
            self.assertIs(is_rests(EXAMPLE, RULES, thing), wanted, thing)
            self.assertIs(is_rest_dict(EXAMPLE, RULES, thing), wanted, thing)

    def test_a_chain_of_restarts(self):
        rules = [({0: (worth,)}, [(0, (worth + 1,))]) for worth in range(1, 5)]
        wanted = {(worth, 0): 4 - worth for worth in range(1, 5)}
        self.assertEqual(rests(EXAMPLE, rules), wanted)
        for content in wanted:
            for number in (0, 1, 2, 3, 4, 5):
                thing = {**wanted, content: number}
                self.assertIs(is_rests(EXAMPLE, rules, thing), is_rest_dict(EXAMPLE, rules, thing))

    def test_nothing_that_is_not_at_rest(self):
        self.assertEqual([rests(EXAMPLE, []), is_rests(EXAMPLE, [], {}), circle(EXAMPLE, [])], [{}, True, None])
        self.assertIs(is_rests(EXAMPLE, [], {(0, 0): 0}), False)

    def test_a_restart_can_leave_several_contents(self):
        # In one order it is at rest, in the other one it turns.
        plan = Plan((0,), 1, [])
        rules = [({0: (0,)}, [(0, (1,)), (0, (2,)), (0, (0,))])]
        self.assertIsNone(rests(plan, rules))
        self.assertEqual(circle(plan, rules), [(0,), (0,)])
        self.assertEqual(rests(plan, [({0: (0,)}, [(0, (0,)), None, (0, (1,)), (0, (2,))])]), {(0,): 0})
        # It may fall ahead of its last piece: that is no restart without a fall.
        self.assertEqual(rests(plan, [({0: (0,)}, [(0, (0,)), None, (0, (2,))])]), {(0,): 0})
        # A restart without a piece leaves what it found.
        self.assertEqual([rests(plan, [({}, [None])]), circle(plan, [({}, [None])])], [None, [(0,), (0,)]])

    def test_small_plans(self):
        chance = random.Random(65)
        seen, judged = {True: 0, False: 0}, {True: 0, False: 0}
        for _ in range(400):
            plan = any_plan(chance, Plan, 3)
            rules = any_rules(chance, plan)
            told, way = rests(plan, rules), circle(plan, rules)
            self.assertEqual([told is None, way is None], [turns(plan, rules), not turns(plan, rules)])
            going = [content for content, runs in reached_by(plan, rules).items() if runs is not None]
            if not going:
                self.assertEqual(told, {})
                continue
            seen[told is None] += 1
            if told is not None:
                self.assertEqual(list(told), sorted(going))
                self.assertIs(is_rests(plan, rules, told), True)
                self.assertTrue(is_rest_dict(plan, rules, told))
            for _ in range(6):
                thing = dict(told or {content: chance.randint(0, 3) for content in going})
                for _ in range(chance.randint(0, 2)):
                    which = chance.random()
                    if which < 0.6:
                        thing[chance.choice(going)] = chance.randint(-1, 4)
                    elif which < 0.8:
                        thing.pop(chance.choice(going), None)
                    else:
                        thing[tuple(chance.randrange(4) for _ in plan.base)] = chance.randint(0, 3)
                keys = chance.sample(list(thing), len(thing))
                thing = {key: thing[key] for key in keys}
                wanted = is_rest_dict(plan, rules, thing)
                judged[wanted] += 1
                self.assertIs(is_rests(plan, rules, thing), wanted)
        self.assertTrue(min(seen.values()) > 30 and min(judged.values()) > 100, (seen, judged))


class Circles(unittest.TestCase):
    def test_the_example(self):
        self.assertEqual(circle(EXAMPLE, ROUND), [(1, 1), (1, 1)])
        self.assertIsNone(circle(EXAMPLE, RULES))
        self.assertIsNone(rests(EXAMPLE, ROUND))

    def test_a_circle_of_three(self):
        rules = [({0: (worth,)}, [(0, (worth % 3 + 1,))]) for worth in (1, 2, 3)]
        way = [(1, 0), (2, 0), (3, 0)]
        for thing in (way + way[:1], way[1:] + way[:2], way[2:] + way):
            self.assertIs(is_circle(EXAMPLE, rules, thing), True)
        for thing in (way, way[:1], way[:2], way + way, way + way + way[:1], [], [(1, 0), (3, 0), (2, 0), (1, 0)],
                      [(1, 0), (1, 0)], way + [(True, 0)], [(True, 0)] + way[1:] + [(True, 0)], tuple(way + way[:1]),
                      way + [[1, 0]], way + [None], None, [None, None], [0, 0], [(0, 0), (0, 0)], [(1, 1), (1, 1)],
                      way[1:] + [(0, 0)] + way[:2], {content: 0 for content in way}, [(1,), (1,)], "aa", [[], []]):
            self.assertIs(is_circle(EXAMPLE, rules, thing), False, thing)
            self.assertIs(is_circle_list(EXAMPLE, rules, thing), False, thing)
        self.assertIn(circle(EXAMPLE, rules), (way + way[:1], way[1:] + way[:2], way[2:] + way))

    def test_content_that_is_not_reached_or_at_rest_is_in_no_circle(self):
        rules = [({0: (5,)}, [(0, (5,))]), ({0: (1,)}, [(0, (2,))])]
        self.assertIsNone(circle(EXAMPLE, rules))
        for thing in ([(5, 0), (5, 0)], [(2, 0), (2, 0)], [(1, 0), (2, 0), (1, 0)]):
            self.assertIs(is_circle(EXAMPLE, rules, thing), False)

    def test_small_plans(self):
        chance = random.Random(66)
        lengths, judged = {}, {True: 0, False: 0}
        for _ in range(500):
            plan = any_plan(chance, Plan, 3)
            rules = any_rules(chance, plan, 4)
            way = circle(plan, rules)
            if way is None:
                self.assertFalse(turns(plan, rules))
                self.assertIs(is_circle(plan, rules, [plan.base] * 2), False)
                continue
            lengths[len(way)] = True
            self.assertTrue(is_circle_list(plan, rules, way), way)
            for _ in range(6):
                thing = list(way)
                which = chance.random()
                if which < 0.3 and len(thing) > 1:
                    turn = chance.randrange(len(thing) - 1)
                    thing = thing[turn:-1] + thing[:turn + 1]
                elif which < 0.8:
                    reach = reached(plan, rules)
                    thing = [chance.choice(reach) for _ in range(chance.randint(1, 3))]
                    thing += thing[:1] if chance.random() < 0.8 else []
                else:
                    thing.insert(chance.randrange(len(thing)), chance.choice(thing))
                wanted = is_circle_list(plan, rules, thing)
                judged[wanted] += 1
                self.assertIs(is_circle(plan, rules, thing), wanted, thing)
        self.assertTrue(len(lengths) > 1 and min(judged.values()) > 100, (lengths, judged))


class LargePlans(unittest.TestCase):
    def test_eight_cells_and_twelve_pieces(self):
        chance = random.Random(67)
        seen = {}
        for _ in range(12):
            plan = self.any_large(chance, [0] * 8)
            rules = []
            for _ in range(8):
                rules.append(({cell: (chance.randrange(2),) for cell in chance.sample(range(7), 2)},
                              self.any_large(chance, [0] * 8).steps))
            guards = [any_pattern(chance, 7) for _ in range(5)]
            told, paper = unsafe(plan, rules, guards), closed(plan, rules, guards)
            self.assertEqual(told is None, paper is not None)
            if told is not None:
                self.assertIs(is_unsafe(plan, rules, guards, told), True)
            else:
                self.assertIs(is_closed(plan, rules, guards, paper), True)
            numbers, way = rests(plan, rules), circle(plan, rules)
            self.assertEqual(numbers is None, way is not None)
            self.assertIs(is_rests(plan, rules, numbers), numbers is not None)
            self.assertIs(is_circle(plan, rules, way), way is not None)
            seen[(told is None, way is None)] = True
        self.assertTrue(len(seen) > 1, seen)

    def any_large(self, chance, base):
        """A plan of twelve pieces that writes 0 and 1 into six cells, with some barriers."""
        steps = [(cell, (worth,)) for cell in range(6) for worth in chance.sample(range(2), 2)]
        chance.shuffle(steps)
        for _ in range(chance.randint(0, 3)):
            steps.insert(chance.randint(1, 11), None)
        return Plan(tuple(base), 1, steps)


class Rest(unittest.TestCase):
    def test_any_object_is_judged(self):
        whole = [(0, 0), (0, 1), (1, 0), (1, 1)]
        for thing in ODD_THINGS + [None, 0, [], {}, (), [[]], [[], []]]:
            self.assertIs(is_unsafe(EXAMPLE, RULES, [{1: (1,)}], thing), False)
            self.assertIs(is_unsafe(EXAMPLE, RULES, [{1: (1,)}], (0, thing)), False)
            self.assertIs(is_unsafe(EXAMPLE, RULES, [{1: (1,)}], (thing, [[]])), False)
            self.assertIs(is_unsafe(EXAMPLE, RULES, [{1: (1,)}], (0, [[0], thing])), False)
            self.assertIs(is_closed(EXAMPLE, RULES, [], thing), False)
            self.assertIs(is_closed(EXAMPLE, RULES, [], [thing]), False)
            self.assertIs(is_closed(EXAMPLE, RULES, [], whole + [thing]), False)
            self.assertIs(is_rests(EXAMPLE, RULES, thing), False)
            self.assertIs(is_rests(EXAMPLE, RULES, {(1, 0): 0, (1, 1): thing}), thing is not False and thing in (0, 10 ** 40 - 1))
            self.assertIs(is_circle(EXAMPLE, ROUND, thing), False)
            self.assertIs(is_circle(EXAMPLE, ROUND, [thing, thing]), False)
            self.assertIs(is_circle(EXAMPLE, ROUND, [(1, 1), thing]), False)
            self.assertIs(is_circle(EXAMPLE, ROUND, [(1, 1), thing, (1, 1)]), False)

    def test_keys_of_all_kinds(self):
        for key in ("", "a", 0, -1, 10 ** 39, (), ("a", 0), (0, ("a", True)), ((0, 0), (1, 1)), (1, True), (True, 0)):
            self.assertIs(is_rests(EXAMPLE, RULES, {key: 0, (1, 0): 0, (1, 1): 0}), False)
            self.assertIs(is_rests(EXAMPLE, RULES, {key: 0, (1, 1): 0}), False)

    def test_too_large_or_changed_returned_things(self):
        plan, rules = counted(99)
        numbers = rests(plan, rules)
        self.assertEqual(len(numbers), 1)
        self.assertIs(is_rests(plan, rules, numbers), True)
        paper = closed(plan, rules, [])
        for thing in (paper + paper, paper + [paper], paper[:50] + paper[49:], [paper], paper[1:], [*paper[:-1], paper[0]]):
            self.assertIs(is_closed(plan, rules, [], thing), False)
        self.assertIs(is_circle(EXAMPLE, ROUND, [(1, 1)] * 5000), False)

    def test_arguments_stay_and_results_are_new(self):
        rules, guards = [({1: (0, 1), 0: (1,)}, [(1, (1,)), None, (0, (0,))])], [{1: (1,), 0: (0,)}]
        told = unsafe(EXAMPLE, rules, guards)
        held = [id(part) for part in inner_lists(told)]
        self.assertEqual(len(set(held)), len(held))
        before = repr(told)
        for part in inner_lists(told):
            part.clear()
        self.assertEqual(repr(unsafe(EXAMPLE, rules, guards)), before)
        for function, more in ((closed, [[]]), (rests, []), (reached, [])):
            result = function(EXAMPLE, rules, *more)
            before = repr(result)
            result.clear()
            self.assertEqual(repr(function(EXAMPLE, rules, *more)), before)
        circle(EXAMPLE, ROUND).clear()
        self.assertEqual(circle(EXAMPLE, ROUND), [(1, 1), (1, 1)])
        thing, paper, way = {(1, 1): 0, (1, 0): 1}, reached(EXAMPLE, rules), [(1, 1), (1, 1)]
        is_rests(EXAMPLE, rules, thing)
        is_closed(EXAMPLE, rules, guards, paper)
        is_circle(EXAMPLE, ROUND, way)
        self.assertEqual([list(thing.items()), paper, way], [[((1, 1), 0), ((1, 0), 1)], reached(EXAMPLE, rules), [(1, 1)] * 2])
        self.assertEqual([list(rules[0][0]), rules[0][1], list(guards[0])], [[1, 0], [(1, (1,)), None, (0, (0,))], [1, 0]])

    def test_histories_with_equal_falls_are_lists_of_their_own(self):
        plan = Plan((0,), 1, [(0, (1,))])
        rules = [({0: (1,)}, [(0, (2,))]), ({0: (2,)}, [(0, (3,))]), ({0: (3,)}, [(0, (4,))])]
        _, history = unsafe(plan, rules, [{0: (4,)}])
        self.assertEqual([history, len({id(fall) for fall in history})], [[[0]] * 4, 4])

    def test_dicts_ascend(self):
        chance = random.Random(68)
        for _ in range(80):
            plan = any_plan(chance, Plan, 3)
            rules = any_rules(chance, plan)
            told = rests(plan, rules)
            if told is not None:
                self.assertEqual(list(told), sorted(told))
            self.assertTrue(set(contents_of(plan)) <= set(reached(plan, rules)))

    def test_arguments_count_as_they_stand_at_the_call(self):
        rules, guards = [({0: (1,)}, [(1, (1,)), None, (0, (0,))])], [{0: (0,), 1: (2,)}]
        self.assertEqual([unsafe(EXAMPLE, rules, guards), len(closed(EXAMPLE, rules, guards))], [None, 4])
        guards[0][1] = (1,)
        self.assertEqual([unsafe(EXAMPLE, rules, guards)[0], closed(EXAMPLE, rules, guards)], [0, None])
        rules[0][1][0] = (1, (3,))
        self.assertEqual([unsafe(EXAMPLE, rules, guards), len(closed(EXAMPLE, rules, guards))], [None, 4])
        rules[0][0][0] = (7,)
        self.assertEqual([reached(EXAMPLE, rules), rests(EXAMPLE, rules)], [[(0, 0), (1, 0)], {}])

    def test_by_name(self):
        self.assertIsNone(unsafe(guards=[], rules=RULES, plan=EXAMPLE))
        self.assertIs(is_unsafe(thing=(0, [[]]), guards=[{}], rules=RULES, plan=EXAMPLE), True)
        self.assertEqual(len(closed(guards=[], rules=RULES, plan=EXAMPLE)), 4)
        self.assertIs(is_closed(thing=[], guards=[], rules=RULES, plan=EXAMPLE), False)
        self.assertEqual(len(rests(rules=RULES, plan=EXAMPLE)), 2)
        self.assertIs(is_rests(thing={}, rules=RULES, plan=EXAMPLE), False)
        self.assertIsNone(circle(rules=RULES, plan=EXAMPLE))
        self.assertIs(is_circle(thing=[(1, 1), (1, 1)], rules=ROUND, plan=EXAMPLE), True)


if __name__ == "__main__":
    unittest.main()
