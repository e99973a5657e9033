"""Live runs ([2], [35], [36])."""

import random
import unittest

from afterfall.errors import Arrived, FallError, InvalidRules, NothingToUndo, TooEarly, UnknownGap, UnknownPiece
from afterfall.makers import log_rules, logged
from afterfall.plans import Plan
from afterfall.restarts import is_history
from afterfall.runs import AtRest, Run, TooLate
from afterfall.safegaps import cheapest_safe, history_gaps, safe_gaps
from tests.histories import all_barred, any_case, contents_in, every_gap, is_past, rule_of
from tests.oracle import ODD_THINGS, after, all_falls, is_let, restart_for
from tests.test_restarts import WRONG_RULES
from tests.test_safegaps import TWO, TWO_GAPS, TWO_RULES, WRONG_CHOICES

EXAMPLE = Plan((2, 0), 1, [(0, (1,))])
RULES = [({0: (1,)}, [(1, (1,)), (0, (0,))])]
NO_GAPS = [None, 0, True, "", (), (0,), (0, 0), (0, 3), (0, -1), (-1, 1), (1, 2), (1, 3), (2, 2), (3, 1), (0, 1, 1), [0, 1],
           (0, True), (False, 1), (True, 1), ("0", 1), (0, "1"), (0, None), ((0, 1),), ((0, 1), 1), (0, (1,)), (0, [1]),
           (10 ** 39, 1), (0, 10 ** 39), {(0, 1): 1}, [(0, 1)], {}]


def shown(run):
    """All that a run shows of itself."""
    return (run.history, run.came, run.content, run.rule, run.barriers, len(run))


class Model:
    """The words of [35] and [36], followed one by one: the calls that were made are made again each time."""

    def __init__(self, plan, rules):
        self.plan, self.rules, self.calls = plan, rules, []

    def state(self):
        """The history, what came of what runs, and the barriers, behind all calls."""
        history, came, barriers = [], [], []
        for name, more in self.calls:
            if name == "arrive":
                came = came + [more]
            elif name == "fall":
                history, came = history + [came], []
            elif name == "put_in":
                barriers = sorted(barriers + [more])
            else:
                barriers = [gap for gap in barriers if gap != more]
        return history, came, barriers

    def running(self):
        """What runs, with its barriers, and the index of its rule."""
        history, _, barriers = self.state()
        plan, rules = all_barred(self.plan, self.rules, barriers)
        if not history:
            return plan, -1
        content = contents_in(plan, rules, history)[-1]
        return restart_for(plan, rules, content), rule_of(rules, content)

    def shown(self):
        history, came, barriers = self.state()
        runs, rule = self.running()
        content = after(runs, came) if runs else contents_in(self.plan, self.rules, history)[-1]
        return (history, came, content, rule, barriers, len(self.calls))

    def wrong(self, name, more):
        """The error of a call, or None."""
        history, came, barriers = self.state()
        runs, _ = self.running()
        if name == "undo":
            return None if self.calls else NothingToUndo
        if name == "fall":
            return None if runs else AtRest
        if name == "take_out":
            return None if more in barriers else UnknownGap
        if name == "arrive":
            if runs is None or more not in range(len(runs.pieces)):
                return UnknownPiece
            if more in came:
                return Arrived
            return None if came + [more] in all_falls(runs) else TooEarly
        if more not in every_gap(self.plan, self.rules) or more in barriers:
            return UnknownGap
        past = history + [came] if runs else history
        return None if is_past(*all_barred(self.plan, self.rules, [more]), past) else TooLate

    def call(self, name, more):
        if name == "undo":
            self.calls.pop()
        else:
            self.calls.append((name, more))

    def copy(self):
        other = Model(self.plan, self.rules)
        other.calls = list(self.calls)
        return other


def any_call(chance, gaps):
    """The name of a call and its argument, None if it has none."""
    which = chance.random()
    if which < 0.4:
        return "arrive", chance.randint(-1 if which < 0.02 else 0, 3)
    if which < 0.55:
        return "fall", None
    if which < 0.85:
        return "put_in" if which < 0.75 else "take_out", chance.choice(gaps + [(0, 9)])
    return "undo", None


def called(thing, name, more):
    """The result of a call of a run, or the error that it raises."""
    try:
        return getattr(thing, name)(*([] if more is None else [more]))
    except FallError as error:
        return type(error)


class Examples(unittest.TestCase):
    def test_those_of_the_document(self):
        run = Run(EXAMPLE, RULES)
        self.assertEqual([run.arrive(0), run.fall(), run.rule, run.arrive(1), run.content], [None, None, 0, None, (0, 0)])
        with self.assertRaises(TooLate):
            run.put_in((1, 1))
        self.assertEqual([run.undo(), run.put_in((1, 1)), run.barriers, run.history, run.came, len(run)],
                         [None, None, [(1, 1)], [[0]], [], 3])
        with self.assertRaises(TooEarly):
            run.arrive(1)

    def test_the_beginning_and_the_end(self):
        run = Run(EXAMPLE, RULES)
        self.assertEqual(shown(run), ([], [], (2, 0), -1, [], 0))
        with self.assertRaises(NothingToUndo):
            run.undo()
        run.fall()
        self.assertEqual(shown(run), ([[]], [], (2, 0), None, [], 1))
        for piece in [0, 1, -1, True, None, "0"] + ODD_THINGS:
            with self.assertRaises(UnknownPiece):
                run.arrive(piece)
        with self.assertRaises(AtRest):
            run.fall()
        self.assertEqual(shown(run), ([[]], [], (2, 0), None, [], 1))
        run.put_in((1, 1))
        run.take_out((1, 1))
        self.assertEqual([run.rule, len(run)], [None, 3])
        for _ in range(3):
            run.undo()
        self.assertEqual(shown(run), ([], [], (2, 0), -1, [], 0))

    def test_a_plan_without_pieces_falls(self):
        run = Run(Plan((1, 0), 1, []), RULES)
        run.fall()
        self.assertEqual(shown(run), ([[]], [], (1, 0), 0, [], 1))
        for _ in range(5):
            run.fall()
        self.assertEqual([run.history, run.rule], [[[]] * 6, 0])

    def test_the_first_rule_that_matches(self):
        rules = [({0: (5,)}, [(0, (6,))]), ({0: (1, 6)}, [(0, (5,))]), ({}, [(1, (1,))]), ({1: (1,)}, [(1, (0,))])]
        run, seen = Run(EXAMPLE, rules), []
        for _ in range(4):
            run.arrive(0)
            run.fall()
            seen.append((run.content, run.rule))
        self.assertEqual(seen, [((1, 0), 1), ((5, 0), 0), ((6, 0), 1), ((5, 0), 0)])

    def test_barriers_hold_back_what_has_not_come(self):
        run = Run(TWO, TWO_RULES)
        for gap in TWO_GAPS[::-1]:
            run.put_in(gap)
        self.assertEqual(run.barriers, TWO_GAPS)
        for piece in (1, 2, 3):
            with self.assertRaises(TooEarly):
                run.arrive(piece)
        run.arrive(0)
        run.take_out((0, 2))
        run.arrive(2)
        for gap in ((0, 2), (0, 1)):
            with self.assertRaises(TooLate if gap == (0, 2) else UnknownGap):
                run.put_in(gap)
        run.arrive(1)
        with self.assertRaises(TooLate):
            run.put_in((0, 2))
        run.fall()
        self.assertEqual([run.rule, run.barriers, run.content], [0, [(0, 1), (1, 1), (1, 4), (2, 1)], (2, 1)])
        for piece in (1, 2, 3):
            with self.assertRaises(TooEarly):
                run.arrive(piece)
        run.take_out((1, 1))
        run.arrive(1)
        with self.assertRaises(TooLate):
            run.put_in((1, 1))
        run.arrive(0)
        run.arrive(2)
        run.take_out((1, 4))
        run.put_in((1, 4))
        run.arrive(3)
        self.assertEqual([run.came, run.content], [[1, 0, 2, 3], (4, 4)])
        run.fall()
        self.assertEqual([run.rule, run.history, len(run)], [None, [[0, 2, 1], [1, 0, 2, 3]], 18])
        for gap, wrong in (((0, 2), TooLate), ((1, 1), TooLate), ((1, 4), UnknownGap), ((2, 1), UnknownGap)):
            with self.assertRaises(wrong):
                run.put_in(gap)
        self.assertEqual(history_gaps(TWO, TWO_RULES, run.history), [(0, 2), (1, 1)])

    def test_a_gap_of_a_rule_that_ran_before(self):
        rules = [({0: (1,)}, [(1, (1,)), (1, (2,))])]
        run = Run(EXAMPLE, rules)
        run.arrive(0)
        run.fall()
        run.arrive(1)
        run.fall()
        self.assertEqual([run.rule, run.came], [0, []])
        with self.assertRaises(TooLate):
            run.put_in((1, 1))
        run.undo()
        with self.assertRaises(TooLate):
            run.put_in((1, 1))
        run.undo()
        run.put_in((1, 1))
        run.arrive(0)
        run.fall()
        self.assertEqual([run.history, run.barriers], [[[0], [0]], [(1, 1)]])

    def test_two_rules_with_one_and_the_same_list(self):
        steps = [(1, (1,)), (0, (2,))]
        rules = [({0: (1,)}, steps), ({0: (2,)}, steps)]
        run = Run(EXAMPLE, rules)
        run.put_in((2, 1))
        run.arrive(0)
        run.fall()
        self.assertIsNone(run.arrive(1))
        run.fall()
        with self.assertRaises(TooEarly):
            run.arrive(1)
        self.assertEqual([run.rule, steps], [1, [(1, (1,)), (0, (2,))]])


class AgainstTheModel(unittest.TestCase):
    def test_drawn_calls(self):
        chance, seen = random.Random(100), {}
        for _ in range(120):
            plan, rules, _ = any_case(chance, Plan)
            gaps = every_gap(plan, rules)
            pairs = [(Run(plan, rules), Model(plan, rules))]
            for _ in range(40):
                run, model = chance.choice(pairs)
                name, more = any_call(chance, gaps)
                wrong = model.wrong(name, more)
                seen[name, wrong] = seen.get((name, wrong), 0) + 1
                self.assertEqual(called(run, name, more), wrong, (name, more))
                if wrong is None:
                    model.call(name, more)
                if chance.random() < 0.1 and len(pairs) < 4:
                    pairs.append((run.copy(), model.copy()))
                self.assertEqual(shown(run), model.shown())
            for one, other in pairs:
                self.assertEqual(shown(one), other.shown())
        self.assertTrue(len(seen) == 13 and min(seen.values()) > 5, seen)

    def test_all_calls_can_be_undone(self):
        chance = random.Random(101)
        for _ in range(40):
            plan, rules, _ = any_case(chance, Plan)
            run, states = Run(plan, rules), []
            for _ in range(60):
                before = shown(run)
                name, more = any_call(chance, every_gap(plan, rules))
                if name != "undo" and called(run, name, more) is None:
                    states.append(before)
                else:
                    self.assertTrue(name == "undo" or shown(run) == before)
            self.assertEqual(len(run), len(states))
            for wanted in reversed(states):
                run.undo()
                self.assertEqual(shown(run), wanted)
            with self.assertRaises(NothingToUndo):
                run.undo()

    def test_barriers_that_are_enough_leave_nothing_bad_at_rest(self):
        chance, rested = random.Random(102), 0
        for _ in range(60):
            plan, rules, guards = any_case(chance, Plan)
            try:
                _, chosen = cheapest_safe(plan, rules, guards, {gap: 1 for gap in safe_gaps(plan, rules)})
            except FallError:
                continue
            for _ in range(10):
                run = Run(plan, rules)
                for gap in chosen:
                    run.put_in(gap)
                for _ in range(30):
                    if run.rule is None:
                        break
                    if called(run, *(("arrive", chance.randint(0, 3)) if chance.random() < 0.75 else ("fall", None))) is AtRest:
                        self.fail("nothing runs, but there is a rule")
                if run.rule is None:
                    rested += 1
                    self.assertFalse(any(is_let(guard, run.content) for guard in guards))
        self.assertTrue(rested > 100, rested)


class LargeCases(unittest.TestCase):
    def test_thousands_of_calls_and_falls(self):
        plan, guards = logged((0, 0, 0), (1, 2, 3), (True, True, True))
        run = Run(plan, log_rules((0, 0, 0), (1, 2, 3), False))
        for piece in (0, 1, 2, 3, 4):
            run.arrive(piece)
        run.fall()
        for turn in range(1200):
            run.put_in((1, 1))
            run.arrive(turn % 3)
            run.take_out((1, 1))
            run.fall()
            self.assertEqual([run.rule, len(run)], [0, 6 + 4 * turn + 4])
        self.assertEqual([len(run.history), run.content, run.barriers], [1201, (1, 2, 3, 1, 1, 2, 3), []])
        self.assertTrue(is_history(plan, log_rules((0, 0, 0), (1, 2, 3), True), run.history))
        self.assertEqual(guards[0][0], (0, 2, 3, 4, 5, 6, 7))
        other = run.copy()
        for _ in range(4806):
            run.undo()
        self.assertEqual([shown(run), len(other.history)], [([], [], plan.base, -1, [], 0), 1201])

    def test_twenty_four_steps(self):
        steps = [(cell % 3, (1,)) for cell in range(12)] + [None] * 12
        run = Run(Plan((0, 0, 0), 1, steps), [({}, steps[::-1])])
        for gap in [(0, gap) for gap in range(1, 12)] + [(1, gap) for gap in range(13, 24)]:
            run.put_in(gap)
        for _ in range(2):
            for piece in range(12):
                for later in range(piece + 1, 12):
                    with self.assertRaises(TooEarly):
                        run.arrive(later)
                run.arrive(piece)
            run.fall()
        self.assertEqual([run.history, len(run.barriers), run.rule], [[list(range(12))] * 2, 22, 0])

    def test_copies_of_copies(self):
        run = Run(EXAMPLE, RULES)
        run.arrive(0)
        runs = [run]
        for _ in range(200):
            runs.append(runs[-1].copy())
        runs[100].fall()
        runs[200].undo()
        runs[50].put_in((1, 1))
        self.assertEqual([shown(runs[at]) for at in (0, 50, 100, 150, 200)],
                         [([], [0], (1, 0), -1, [], 1), ([], [0], (1, 0), -1, [(1, 1)], 2), ([[0]], [], (1, 0), 0, [], 2),
                          ([], [0], (1, 0), -1, [], 1), ([], [], (2, 0), -1, [], 0)])
        third = runs[100].copy()
        runs[100].undo()
        runs[100].undo()
        runs[100].fall()
        self.assertEqual([third.history, runs[100].history, third.rule, runs[100].rule], [[[0]], [[]], 0, None])
        third.undo()
        third.undo()
        with self.assertRaises(NothingToUndo):
            third.undo()


class Rest(unittest.TestCase):
    def test_the_errors_of_the_file(self):
        for error in (TooLate, AtRest):
            self.assertEqual([error.__bases__, error.__module__, str(error("why"))], [(FallError,), "afterfall.runs", "why"])

    def test_invalid_rules(self):
        for rules in WRONG_RULES + ODD_THINGS:
            with self.assertRaises(InvalidRules, msg=repr(rules)[:60]):
                Run(EXAMPLE, rules)

    def test_unknown_pieces(self):
        run = Run(EXAMPLE, RULES)
        for piece in [1, 2, -1, True, False, None, "0", "", (0,), [0], {0: 0}, {}, 10 ** 39] + ODD_THINGS:
            with self.assertRaises(UnknownPiece, msg=repr(piece)[:60]):
                run.arrive(piece)
        run.arrive(0)
        with self.assertRaises(Arrived):
            run.arrive(0)
        self.assertEqual(shown(run), ([], [0], (1, 0), -1, [], 1))

    def test_unknown_gaps(self):
        run = Run(TWO, TWO_RULES)
        things = NO_GAPS + ODD_THINGS + [part for wrong in WRONG_CHOICES if isinstance(wrong, list) for part in wrong
                                         if part not in TWO_GAPS or isinstance(part[0], bool) or isinstance(part[1], bool)]
        for turn in range(2):
            for gap in things + (TWO_GAPS if turn else []):
                with self.assertRaises(UnknownGap, msg=repr(gap)[:60]):
                    run.put_in(gap)
            for gap in things + ([] if turn else TWO_GAPS):
                with self.assertRaises(UnknownGap, msg=repr(gap)[:60]):
                    run.take_out(gap)
            self.assertEqual(run.barriers, TWO_GAPS if turn else [])
            if not turn:
                for gap in TWO_GAPS:
                    run.put_in(gap)
        run.take_out((1, 4))
        with self.assertRaises(UnknownGap):
            run.take_out((1, 4))
        self.assertEqual(run.barriers, [(0, 1), (0, 2), (1, 1), (2, 1)])

    def test_what_is_passed_and_returned_can_be_changed(self):
        steps, pattern = [(1, (1,)), (0, (0,))], {0: (1,)}
        rules = [(pattern, steps)]
        run = Run(EXAMPLE, rules)
        other = run.copy()
        steps.clear()
        pattern[0] = (7,)
        rules.clear()
        for one in (run, other):
            one.arrive(0)
            came = one.came
            one.fall()
            came.append(5)
            one.put_in((1, 1))
            one.arrive(0)
            one.history[0].append(7)
            one.history.clear()
            one.came.clear()
            one.barriers.clear()
            self.assertEqual(shown(one), ([[0]], [0], (1, 1), 0, [(1, 1)], 4))
        history = run.history
        run.fall()
        self.assertEqual([history, run.history], [[[0]], [[0], [0]]])
        run.undo()
        self.assertEqual([history, run.history], [[[0]], [[0]]])

    def test_by_name(self):
        run = Run(rules=RULES, plan=EXAMPLE)
        run.arrive(piece=0)
        run.put_in(gap=(1, 1))
        run.take_out(gap=(1, 1))
        self.assertEqual(shown(run), ([], [0], (1, 0), -1, [], 3))


if __name__ == "__main__":
    unittest.main()
