"""Plans ([2], [4], [9])."""

import random
import unittest

from afterfall.errors import InvalidPlan, InvalidStep, UnknownPiece, UnknownStep
from afterfall.plans import Plan
from tests.oracle import ODD_THINGS, any_plan

WRONG_STEPS = [False, True, 0, 1, "", "barrier", (), [], (0,), [0, (1,)], (0, (1,), 0), (0, ()), (0, [1]), (0, 1),
               (0, (8,)), (0, (-1,)), (0, (0, 8)), (-1, (0,)), (3, (0,)), (2, (0, 0)), (1, (0, 0, 0)), (0, (0,) * 4),
               (True, (0,)), (False, (0,)), (0, (True,)), (0, (0, False)), (None, (0,)), ("0", (0,)), ((0,), (0,)),
               (0, None), (0, "0"), (0, ("0",)), (0, ((0,),)), (10 ** 39, (0,)), (0, (10 ** 39,)), {0: (0,)}, {}]


class Making(unittest.TestCase):
    def test_the_example(self):
        plan = Plan((0, 0, 0, 0), 2, [(1, (1, 1)), None, (2, (2,))])
        self.assertEqual([plan.base, plan.width], [(0, 0, 0, 0), 2])
        self.assertEqual(plan.steps, [(1, (1, 1)), None, (2, (2,))])
        self.assertEqual(plan.pieces, [(0, 1, (1,)), (0, 2, (1,)), (2, 2, (2,))])
        self.assertEqual([plan.epochs, plan.epoch_of(2), plan.without_step(1).epochs], [2, 1, 1])

    def test_the_example_of_a_wrong_one(self):
        with self.assertRaises(InvalidPlan):
            Plan((0, 0), 1, [(1, (1, 1))])

    def test_the_smallest_and_the_largest(self):
        plan = Plan((7,), 1, [])
        self.assertEqual([plan.base, plan.width, plan.steps, plan.pieces, plan.epochs], [(7,), 1, [], [], 1])
        plan = Plan((0,) * 24, 24, [(0, (7,) * 24)] * 40)
        self.assertEqual([len(plan.base), plan.width, len(plan.steps), len(plan.pieces)], [24, 24, 40, 40])

    def test_bases(self):
        for many in (1, 2, 23, 24):
            self.assertEqual(Plan((3,) * many, 1, []).base, (3,) * many)
        for base in ODD_THINGS + [(), (0,) * 25, (8,), (-1,), [0], (True,), (0, False), None, 0, {0: 0}]:
            with self.assertRaises(InvalidPlan):
                Plan(base, 1, [])

    def test_widths(self):
        for width in range(1, 25):
            self.assertEqual(Plan((0,), width, []).width, width)
        for width in ODD_THINGS + [0, 25, -1, True, False, None, "1", (1,), [1], 10 ** 39]:
            with self.assertRaises(InvalidPlan):
                Plan((0,), width, [])

    def test_steps_are_a_list(self):
        for steps in ODD_THINGS + [(), (None,), None, 0, "", {}, {0: None}, ((0, (0,)),)]:
            if steps != [None]:
                with self.assertRaises(InvalidPlan):
                    Plan((0,), 1, steps)

    def test_each_step_counts(self):
        for step in WRONG_STEPS + ODD_THINGS:
            for steps in ([step], [None, step], [step, (0, (0,))], [(0, (0,)), None, step]):
                with self.assertRaises(InvalidPlan, msg=repr(step)[:50]):
                    Plan((0, 0, 0), 1, steps)

    def test_writes_stay_in_the_store(self):
        for cells in range(1, 25):
            for first in range(cells):
                plan = Plan((0,) * cells, 24, [(first, (1,) * (cells - first))])
                self.assertEqual(plan.pieces, [(0, first, (1,) * (cells - first))])
                with self.assertRaises(InvalidPlan):
                    Plan((0,) * cells, 24, [(first, (1,) * (cells - first + 1))])
            with self.assertRaises(InvalidPlan):
                Plan((0,) * cells, 24, [(cells, (1,))])

    def test_worths_of_writes(self):
        self.assertEqual(Plan((0,) * 8, 24, [(0, (0, 1, 2, 3, 4, 5, 6, 7))]).pieces, [(0, 0, (0, 1, 2, 3, 4, 5, 6, 7))])

    def test_forty_steps_and_no_more(self):
        for step in (None, (0, (1,))):
            self.assertEqual(len(Plan((0,), 1, [step] * 40).steps), 40)
            with self.assertRaises(InvalidPlan):
                Plan((0,), 1, [step] * 41)
        self.assertEqual(Plan((0,), 1, [None] * 40).epochs, 41)
        with self.assertRaises(InvalidPlan):
            Plan((0,), 1, [None] * 4999)

    def test_forty_pieces_and_no_more(self):
        self.assertEqual(len(Plan((0,) * 20, 1, [(0, (1,) * 20)] * 2).pieces), 40)
        self.assertEqual(len(Plan((0,) * 24, 1, [(0, (1,) * 24), None, (0, (1,) * 16)]).pieces), 40)
        for steps in ([(0, (1,) * 24), None, (0, (1,) * 17)], [(0, (1,) * 20)] * 2 + [(0, (1,))],
                      [(0, (1,) * 24)] * 40):
            with self.assertRaises(InvalidPlan):
                Plan((0,) * 24, 1, steps)

    def test_several_wrong_at_once(self):
        for thing in ODD_THINGS:
            with self.assertRaises(InvalidPlan):
                Plan(thing, thing, thing)

    def test_by_name(self):
        self.assertEqual(Plan(steps=[None], width=2, base=(1,)), Plan((1,), 2, [None]))


class Pieces(unittest.TestCase):
    def test_writes_break_at_multiples_of_the_width(self):
        for width, first, many, wanted in (
                (1, 0, 3, [(0, 1), (1, 1), (2, 1)]), (2, 0, 4, [(0, 2), (2, 2)]), (2, 1, 4, [(1, 1), (2, 2), (4, 1)]),
                (3, 1, 5, [(1, 2), (3, 3)]), (3, 2, 1, [(2, 1)]), (3, 3, 3, [(3, 3)]), (3, 3, 4, [(3, 3), (6, 1)]),
                (4, 0, 4, [(0, 4)]), (4, 3, 2, [(3, 1), (4, 1)]), (24, 0, 8, [(0, 8)]), (7, 1, 7, [(1, 6), (7, 1)]),
                (8, 2, 6, [(2, 6)]), (5, 5, 1, [(5, 1)]), (5, 4, 1, [(4, 1)])):
            worths = tuple(range(many))
            plan = Plan((0,) * 8, width, [(first, worths)])
            pieces = [(0, at, worths[at - first:at - first + size]) for at, size in wanted]
            self.assertEqual(plan.pieces, pieces, (width, first, many))

    def test_they_are_numbered_by_their_steps(self):
        plan = Plan((0, 0, 0), 2, [None, (1, (1, 2)), (0, (3,)), None, None, (0, (4, 5, 6)), None])
        self.assertEqual(plan.pieces, [(1, 1, (1,)), (1, 2, (2,)), (2, 0, (3,)), (5, 0, (4, 5)), (5, 2, (6,))])

    def test_epochs(self):
        plan = Plan((0, 0, 0), 2, [None, (1, (1, 2)), (0, (3,)), None, None, (0, (4, 5, 6)), None])
        self.assertEqual([plan.epoch_of(piece) for piece in range(5)], [1, 1, 1, 3, 3])
        self.assertEqual(plan.epochs, 5)
        plan = Plan((0,), 1, [(0, (1,)), None, (0, (2,))])
        self.assertEqual([plan.epochs, plan.epoch_of(0), plan.epoch_of(1)], [2, 0, 1])

    def test_forty_epochs(self):
        plan = Plan((0,), 1, [None] * 39 + [(0, (1,))])
        self.assertEqual([plan.epochs, plan.epoch_of(0)], [40, 39])

    def test_pieces_put_together_are_the_writes(self):
        chance = random.Random(9)
        for _ in range(300):
            plan = any_plan(chance, Plan, 40)
            for index, step in enumerate(plan.steps):
                parts = [piece for piece in plan.pieces if piece[0] == index]
                if step is None:
                    self.assertEqual(parts, [])
                    continue
                self.assertEqual([worth for part in parts for worth in part[2]], list(step[1]))
                self.assertEqual(parts[0][1], step[0])
                for part in parts:
                    cells = range(part[1], part[1] + len(part[2]))
                    self.assertEqual(len({cell // plan.width for cell in cells}), 1)
                for part, other in zip(parts, parts[1:]):
                    self.assertEqual(part[1] + len(part[2]), other[1])
                    self.assertEqual(other[1] % plan.width, 0)
            self.assertEqual(plan.pieces, sorted(plan.pieces))
            self.assertEqual([plan.epoch_of(k) for k in range(len(plan.pieces))],
                             [plan.steps[:piece[0]].count(None) for piece in plan.pieces])

    def test_unknown_pieces(self):
        plan = Plan((0, 0), 1, [(0, (1, 1)), None])
        for piece in ODD_THINGS + [-1, 2, 3, True, False, None, "0", (0,), [0], 10 ** 39]:
            with self.assertRaises(UnknownPiece):
                plan.epoch_of(piece)
        with self.assertRaises(UnknownPiece):
            Plan((0,), 1, [None]).epoch_of(0)
        self.assertEqual(plan.epoch_of(piece=1), 0)


class WithAndWithout(unittest.TestCase):
    def setUp(self):
        self.plan = Plan((0, 0, 0), 1, [(0, (1, 1)), None, (2, (2,))])

    def test_a_step_more(self):
        for index in range(4):
            for step in (None, (1, (5, 6))):
                steps = self.plan.steps
                steps.insert(index, step)
                self.assertEqual(self.plan.with_step(index, step), Plan((0, 0, 0), 1, steps))
        self.assertEqual(self.plan.with_step(0, (0, (7,))).pieces[0], (0, 0, (7,)))
        self.assertEqual(self.plan.with_step(3, (0, (7,))).pieces[-1], (3, 0, (7,)))
        self.assertEqual(self.plan.with_step(1, None).epoch_of(2), 2)

    def test_a_step_less(self):
        for index in range(3):
            steps = self.plan.steps
            del steps[index]
            self.assertEqual(self.plan.without_step(index), Plan((0, 0, 0), 1, steps))

    def test_the_plan_stays(self):
        before = Plan((0, 0, 0), 1, [(0, (1, 1)), None, (2, (2,))])
        self.plan.with_step(0, None)
        self.plan.with_step(3, (0, (7,)))
        self.plan.without_step(0)
        self.plan.without_step(1)
        self.assertEqual(self.plan, before)
        self.assertEqual([self.plan.steps, self.plan.pieces, self.plan.epochs],
                         [before.steps, before.pieces, before.epochs])

    def test_unknown_steps(self):
        for index in ODD_THINGS + [-1, 4, 5, True, False, None, "0", (0,), [0], 10 ** 39]:
            with self.assertRaises(UnknownStep):
                self.plan.with_step(index, None)
            with self.assertRaises(UnknownStep):
                self.plan.without_step(index)
        with self.assertRaises(UnknownStep):
            self.plan.without_step(3)
        with self.assertRaises(UnknownStep):
            Plan((0,), 1, []).without_step(0)
        self.assertEqual(Plan((0,), 1, []).with_step(0, None).steps, [None])

    def test_invalid_steps(self):
        for step in WRONG_STEPS + ODD_THINGS:
            for index in (0, 3):
                with self.assertRaises(InvalidStep, msg=repr(step)[:50]):
                    self.plan.with_step(index, step)

    def test_too_many_steps_or_pieces(self):
        plan = Plan((0,), 1, [None] * 39)
        self.assertEqual(len(plan.with_step(39, None).steps), 40)
        full = plan.with_step(0, (0, (1,)))
        for step in (None, (0, (1,))):
            with self.assertRaises(InvalidPlan):
                full.with_step(40, step)
        plan = Plan((0,) * 24, 1, [(0, (1,) * 24)])
        self.assertEqual(len(plan.with_step(1, (0, (1,) * 16)).pieces), 40)
        with self.assertRaises(InvalidPlan):
            plan.with_step(1, (0, (1,) * 17))

    def test_the_order_of_the_errors(self):
        full = Plan((0,), 1, [None] * 40)
        for index in (41, -1, True, "a"):
            for step in (None, (1, (0,)), "a"):
                with self.assertRaises(UnknownStep):
                    full.with_step(index, step)
        for step in WRONG_STEPS + [(1, (0,))]:
            with self.assertRaises(InvalidStep):
                full.with_step(40, step)
        for thing in ODD_THINGS:
            with self.assertRaises(UnknownStep):
                full.with_step(thing, thing)

    def test_by_name(self):
        self.assertEqual(self.plan.with_step(step=None, index=0).steps[0], None)
        self.assertEqual(self.plan.without_step(index=1).epochs, 1)


class Equality(unittest.TestCase):
    def test_base_width_and_steps_count(self):
        plan = Plan((0, 0), 2, [(0, (1,)), None])
        self.assertIs(plan == Plan((0, 0), 2, [(0, (1,)), None]), True)
        self.assertIs(plan != Plan((0, 0), 2, [(0, (1,)), None]), False)
        for other in (Plan((0, 1), 2, [(0, (1,)), None]), Plan((0, 0, 0), 2, [(0, (1,)), None]),
                      Plan((0, 0), 1, [(0, (1,)), None]), Plan((0, 0), 2, [(0, (1,))]), Plan((0, 0), 2, []),
                      Plan((0, 0), 2, [None, (0, (1,))]), Plan((0, 0), 2, [(0, (2,)), None]),
                      Plan((0, 0), 2, [(1, (1,)), None]), Plan((0, 0), 2, [(0, (1, 0)), None])):
            self.assertIs(plan == other, False)
            self.assertIs(plan != other, True)

    def test_widths_with_the_same_pieces_are_not_equal(self):
        self.assertIs(Plan((0,), 1, []) == Plan((0,), 2, []), False)

    def test_other_things_are_no_plans(self):
        plan = Plan((0,), 1, [])
        for other in ODD_THINGS + [None, 0, (), [], ((0,), 1, []), "plan 1\nbase 0"]:
            self.assertIs(plan == other, False)
            self.assertIs(other == plan, False)


class NothingChanges(unittest.TestCase):
    def test_the_list_that_is_handed_in_is_copied(self):
        steps = [(0, (1,)), None]
        plan = Plan((0,), 1, steps)
        self.assertEqual(steps, [(0, (1,)), None])
        steps.append((0, (2,)))
        steps[0] = None
        self.assertEqual([plan.steps, plan.pieces, plan.epochs], [[(0, (1,)), None], [(0, 0, (1,))], 2])

    def test_lists_that_are_returned_are_new(self):
        plan = Plan((0, 0), 1, [(0, (1, 1)), None])
        plan.steps.append(None)
        plan.steps.clear()
        plan.pieces.pop()
        plan.pieces.clear()
        self.assertEqual([plan.steps, plan.pieces, plan.epochs, plan.epoch_of(1)],
                         [[(0, (1, 1)), None], [(0, 0, (1,)), (0, 1, (1,))], 2, 0])
        self.assertIsNot(plan.steps, plan.steps)
        self.assertIsNot(plan.pieces, plan.pieces)

    def test_a_plan_has_its_properties_from_the_start_and_keeps_them(self):
        plan = Plan((0, 0), 1, [(0, (1, 1)), None])
        for name, value in (("base", (1, 1)), ("width", 2), ("steps", []), ("pieces", []), ("epochs", 9)):
            before = getattr(plan, name)
            with self.assertRaises(AttributeError):
                setattr(plan, name, value)
            self.assertEqual(getattr(plan, name), before)


if __name__ == "__main__":
    unittest.main()
