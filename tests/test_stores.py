"""Live stores ([2], [24], [25])."""

import random
import unittest

from afterfall.errors import (Arrived, FallError, InvalidPattern, InvalidPlan, InvalidStep, NothingToUndo, TooEarly,
                              TooMany, UnknownPiece)
from afterfall.falls import content_after, is_fall
from afterfall.plans import Plan
from afterfall.stores import Store
from tests.oracle import ODD_THINGS, after, all_falls, any_pattern, is_let
from tests.test_finding import WRONG_PATTERNS
from tests.test_plans import WRONG_STEPS

NO_PIECES = [None, -1, 2, 3, True, False, "0", "", [], [0], (0,), {}, {0: 0}, 10 ** 39, -10 ** 39]


def shown(store):
    """All that a store shows of itself."""
    return (store.plan, store.came, store.content, store.ready, len(store))


class Model:
    """The words of [24] and [25], followed one by one: the calls that were made are made again each time."""

    def __init__(self, base, width):
        self.base, self.width, self.calls = base, width, []

    def states(self):
        """The plan and the pieces that came, behind all calls."""
        plan, came = Plan(self.base, self.width, []), []
        for name, *more in self.calls:
            if name == "arrive":
                came = came + more
            elif name == "lose":
                plan, came = Plan(after(plan, came), self.width, []), []
            else:
                plan = Plan(plan.base, self.width, plan.steps + [tuple(more) if more else None])
        return plan, came

    def ready(self):
        plan, came = self.states()
        return [piece for piece in range(len(plan.pieces)) if came + [piece] in all_falls(plan)]

    def wrong(self, name, *more):
        """The error of a call, or None."""
        plan, came = self.states()
        if name == "undo":
            return None if self.calls else NothingToUndo
        if name == "arrive":
            if more[0] not in range(len(plan.pieces)):
                return UnknownPiece
            if more[0] in came:
                return Arrived
            return None if more[0] in self.ready() else TooEarly
        return None

    def call(self, name, *more):
        if name == "undo":
            self.calls.pop()
        else:
            self.calls.append((name, *more))

    def can_hold(self, pattern):
        plan, came = self.states()
        return any(fall[:len(came)] == came and is_let(pattern, after(plan, fall)) for fall in all_falls(plan))

    def copy(self):
        other = Model(self.base, self.width)
        other.calls = list(self.calls)
        return other

    def shown(self):
        plan, came = self.states()
        return (plan, came, after(plan, came), self.ready(), len(self.calls))


def any_call(chance, store):
    """A call, mostly one that raises no error and keeps the plan small."""
    which, plan = chance.random(), store.plan
    if which < 0.3 and len(plan.pieces) < 4:
        first = chance.randrange(2)
        return ("write", first, tuple(chance.randrange(3) for _ in range(chance.randint(1, 2 - first))))
    if which < 0.4 and len(plan.steps) < 7:
        return ("barrier",)
    if which < 0.75:
        able = store.ready if chance.random() < 0.4 else range(-1, len(plan.pieces) + 1)
        return ("arrive", chance.choice(able or [0]))
    return ("lose",) if which < 0.83 else ("undo",)


class Examples(unittest.TestCase):
    def test_those_of_the_document(self):
        store = Store((0, 0), 1)
        self.assertEqual([store.write(0, (1, 1)), store.barrier(), store.write(1, (2,)), store.ready, store.arrive(1),
                          store.content], [None, None, None, [0, 1], None, (0, 1)])
        self.assertEqual([store.can_hold({0: (0,), 1: (2,)}), store.can_hold({0: (1,), 1: (2,)}), store.lose(),
                          store.content, store.plan.steps], [False, True, None, (0, 1), []])

    def test_the_beginning(self):
        store = Store((3, 4, 5), 2)
        self.assertEqual(shown(store), (Plan((3, 4, 5), 2, []), [], (3, 4, 5), [], 0))
        self.assertEqual([store.can_hold({}), store.can_hold({0: (3,)}), store.can_hold({0: (2, 4)})], [True, True, False])
        with self.assertRaises(NothingToUndo):
            store.undo()

    def test_a_loss_begins_a_new_plan(self):
        store = Store((0, 0), 1)
        store.write(0, (1, 1))
        store.arrive(1)
        store.lose()
        self.assertEqual(shown(store), (Plan((0, 1), 1, []), [], (0, 1), [], 3))
        store.lose()
        store.write(0, (2,))
        store.arrive(0)
        self.assertEqual(shown(store), (Plan((0, 1), 1, [(0, (2,))]), [0], (2, 1), [], 6))
        for wanted in ((0, 1), (0, 1), (0, 1), (0, 1), (0, 0), (0, 0)):
            store.undo()
            self.assertEqual(store.content, wanted)
        self.assertEqual(shown(store), (Plan((0, 0), 1, []), [], (0, 0), [], 0))

    def test_ready(self):
        store = Store((0, 0), 1)
        store.barrier()
        store.write(0, (1, 1))
        store.barrier()
        store.barrier()
        store.write(0, (2, 2))
        self.assertEqual([store.ready, store.plan.epochs], [[0, 1], 4])
        store.arrive(1)
        self.assertEqual(store.ready, [0])
        store.arrive(0)
        self.assertEqual(store.ready, [2, 3])
        for piece in (3, 2):
            store.arrive(piece)
        self.assertEqual([store.ready, store.came, store.content], [[], [1, 0, 3, 2], (2, 2)])
        store.write(1, (5,))
        self.assertEqual(store.ready, [4])

    def test_what_came_stays_ahead_of_what_can_still_come(self):
        store = Store((0, 0), 1)
        store.write(0, (1, 1))
        store.write(0, (2, 2))
        self.assertTrue(store.can_hold({0: (1,), 1: (2,)}))
        store.arrive(2)
        store.arrive(0)
        self.assertEqual([store.can_hold({0: (2,)}), store.can_hold({0: (0,)}), store.can_hold({0: (1,), 1: (0,)}),
                          store.can_hold({1: (2,)}), store.can_hold({1: (1,)})], [False, False, True, True, True])
        store.undo()
        self.assertEqual([store.can_hold({0: (2,)}), store.can_hold({0: (1,), 1: (0,)})], [True, True])


class Undoing(unittest.TestCase):
    def test_hundreds_of_calls(self):
        chance, store, seen = random.Random(81), Store((0, 0, 0), 2), []
        seen.append(shown(store))
        while len(store) < 900:
            if chance.random() < 0.1 or len(store.plan.pieces) > 35:
                store.lose()
            elif store.ready and chance.random() < 0.5:
                store.arrive(chance.choice(store.ready))
            elif chance.random() < 0.3:
                store.barrier()
            else:
                store.write(0, (chance.randrange(8), 1, 2))
            seen.append(shown(store))
            self.assertTrue(is_fall(store.plan, store.came))
            self.assertEqual(store.content, content_after(store.plan, store.came))
        for wanted in reversed(seen[:-1]):
            store.undo()
            self.assertEqual(shown(store), wanted)
        for _ in range(2):
            with self.assertRaises(NothingToUndo):
                store.undo()
        store.barrier()
        self.assertEqual(len(store), 1)

    def test_calls_that_raise_errors_are_none_of_them(self):
        store = Store((0, 0), 1)
        store.write(0, (1, 1))
        store.barrier()
        store.write(0, (2,))
        store.arrive(0)
        before = shown(store)
        for call, wrong in ((lambda: store.write(0, (1, 1, 1)), InvalidStep), (lambda: store.write(2, (1,)), InvalidStep),
                            (lambda: store.arrive(3), UnknownPiece), (lambda: store.arrive(0), Arrived),
                            (lambda: store.arrive(2), TooEarly), (lambda: store.can_hold({2: (0,)}), InvalidPattern)):
            with self.assertRaises(wrong):
                call()
            self.assertEqual(shown(store), before)
        store.undo()
        self.assertEqual([store.came, len(store)], [[], 3])

    def test_undone_calls_are_gone(self):
        store = Store((0,), 1)
        store.write(0, (1,))
        store.undo()
        store.write(0, (2,))
        store.arrive(0)
        self.assertEqual([store.content, len(store), store.plan.steps], [(2,), 2, [(0, (2,))]])
        store.undo()
        store.undo()
        with self.assertRaises(NothingToUndo):
            store.undo()


class AgainstTheModel(unittest.TestCase):
    def test_drawn_calls(self):
        chance, seen = random.Random(82), {}
        for _ in range(60):
            base, width = (chance.randrange(3), chance.randrange(3)), chance.randint(1, 2)
            pairs = [(Store(base, width), Model(base, width))]
            for _ in range(40):
                store, model = chance.choice(pairs)
                name, *more = any_call(chance, store)
                wrong = model.wrong(name, *more)
                seen[name, wrong] = seen.get((name, wrong), 0) + 1
                if wrong is None:
                    self.assertIsNone(getattr(store, name)(*more))
                    model.call(name, *more)
                else:
                    with self.assertRaises(wrong):
                        getattr(store, name)(*more)
                if chance.random() < 0.1 and len(pairs) < 4:
                    pairs.append((store.copy(), model.copy()))
                for one, other in pairs:
                    self.assertEqual(shown(one), other.shown())
                pattern = any_pattern(chance, 2)
                self.assertIs(store.can_hold(pattern), model.can_hold(pattern))
        self.assertTrue(len(seen) == 9 and min(seen.values()) > 5, seen)

    def test_can_hold(self):
        chance, seen = random.Random(83), {True: 0, False: 0}
        for _ in range(150):
            store = Store((0, 0, 0), chance.randint(1, 3))
            while len(store.plan.pieces) < 4 and len(store.plan.steps) < 6:
                first = chance.randrange(3)
                if chance.random() < 0.3:
                    store.barrier()
                else:
                    store.write(first, tuple(chance.randint(1, 3) for _ in range(chance.randint(1, 3 - first))))
            for _ in range(chance.randint(0, 3)):
                if store.ready:
                    store.arrive(chance.choice(store.ready))
            falls = [fall for fall in all_falls(store.plan) if fall[:len(store.came)] == store.came]
            found = {after(store.plan, fall) for fall in falls}
            for _ in range(6):
                pattern = any_pattern(chance, 3)
                wanted = any(is_let(pattern, content) for content in found)
                seen[wanted] += 1
                self.assertIs(store.can_hold(pattern), wanted)
        self.assertTrue(min(seen.values()) > 100, seen)


class Bounds(unittest.TestCase):
    def test_forty_steps(self):
        store = Store((0,), 1)
        for _ in range(20):
            store.barrier()
            store.write(0, (1,))
        before = shown(store)
        for _ in range(2):
            with self.assertRaises(TooMany):
                store.barrier()
            with self.assertRaises(TooMany):
                store.write(0, (1,))
        for first, worths in ((1, (1,)), (0, ()), (0, (8,)), (None, None), (0, [1])):
            with self.assertRaises(InvalidStep):
                store.write(first, worths)
        self.assertEqual(shown(store), before)
        self.assertEqual([len(store.plan.steps), len(store), store.plan.epochs], [40, 40, 21])
        store.undo()
        store.barrier()
        self.assertEqual([len(store.plan.steps), store.plan.steps[-1]], [40, None])

    def test_forty_pieces(self):
        store = Store((0,) * 24, 1)
        store.write(0, (1,) * 24)
        store.write(0, (2,) * 15)
        with self.assertRaises(TooMany):
            store.write(0, (3, 3))
        self.assertEqual(len(store.plan.pieces), 39)
        store.write(23, (3,))
        self.assertEqual(len(store.plan.pieces), 40)
        with self.assertRaises(TooMany):
            store.write(0, (3,))
        with self.assertRaises(InvalidStep):
            store.write(23, (3, 3))
        store.barrier()
        self.assertEqual([len(store.plan.steps), len(store.ready)], [4, 40])
        store.arrive(39)
        store.lose()
        store.write(0, (3,) * 24)
        self.assertEqual([store.content, len(store.plan.pieces)], [(0,) * 23 + (3,), 24])

    def test_what_breaks_at_multiples_of_the_width_counts_as_pieces(self):
        store = Store((0,) * 24, 3)
        for _ in range(5):
            store.write(1, (1,) * 23)
        with self.assertRaises(TooMany):
            store.write(2, (1, 1))
        self.assertEqual(len(store.plan.pieces), 40)


class Copies(unittest.TestCase):
    def test_each_goes_its_own_way(self):
        store = Store((0, 0), 1)
        store.write(0, (1, 1))
        store.arrive(0)
        other = store.copy()
        self.assertEqual(shown(other), shown(store))
        third = other.copy()
        other.arrive(1)
        other.lose()
        third.undo()
        third.undo()
        self.assertEqual([store.came, other.content, third.plan.steps, len(store), len(other), len(third)],
                         [[0], (1, 1), [], 2, 4, 0])
        with self.assertRaises(NothingToUndo):
            third.undo()
        store.undo()
        self.assertEqual([store.came, other.plan.base], [[], (1, 1)])
        for _ in range(4):
            other.undo()
        self.assertEqual(shown(other), shown(third))
        self.assertEqual(len(store), 1)

    def test_copies_of_a_store_with_a_long_past(self):
        store = Store((0,), 1)
        for turn in range(300):
            store.write(0, (turn % 8,))
            store.arrive(0)
            store.lose()
        others = [store]
        for _ in range(100):
            others.append(others[-1].copy())
        others[50].barrier()
        for _ in range(900):
            others[100].undo()
        self.assertEqual([len(others[0]), len(others[50]), len(others[100]), others[0].content, others[100].content],
                         [900, 901, 0, (3,), (0,)])


class Rest(unittest.TestCase):
    def test_invalid_plans(self):
        for base, width in (((), 1), ((0,) * 25, 1), ((8,), 1), ((True,), 1), ([0], 1), (None, 1), ((0,), 0), ((0,), 25),
                            ((0,), True), ((0,), "1"), ((0,), None), (None, None)):
            with self.assertRaises(InvalidPlan):
                Store(base, width)
        for thing in ODD_THINGS:
            with self.assertRaises(InvalidPlan, msg=repr(thing)[:60]):
                Store((0,), thing)
            with self.assertRaises(InvalidPlan, msg=repr(thing)[:60]):
                Store(thing, 1)
        self.assertEqual([Store((0,), 24).plan.width, Store((0,) * 24, 1).content], [24, (0,) * 24])

    def test_invalid_steps(self):
        store = Store((0, 0, 0), 1)
        for step in WRONG_STEPS:
            if isinstance(step, tuple) and len(step) == 2:
                with self.assertRaises(InvalidStep, msg=repr(step)[:60]):
                    store.write(*step)
        for thing in ODD_THINGS + [None]:
            with self.assertRaises(InvalidStep, msg=repr(thing)[:60]):
                store.write(thing, (0,))
            with self.assertRaises(InvalidStep, msg=repr(thing)[:60]):
                store.write(0, thing)
        self.assertEqual(len(store), 0)

    def test_unknown_pieces(self):
        store = Store((0,), 1)
        store.write(0, (1,))
        store.write(0, (2,))
        for piece in NO_PIECES + ODD_THINGS:
            with self.assertRaises(UnknownPiece, msg=repr(piece)[:60]):
                store.arrive(piece)
        with self.assertRaises(UnknownPiece):
            Store((0,), 1).arrive(0)
        self.assertEqual(store.came, [])

    def test_invalid_patterns(self):
        store = Store((0, 0), 1)
        for pattern in WRONG_PATTERNS + ODD_THINGS:
            with self.assertRaises(InvalidPattern, msg=repr(pattern)[:60]):
                store.can_hold(pattern)

    def test_all_errors_have_one_base(self):
        with self.assertRaises(FallError):
            Store((0,), 1).arrive(0)

    def test_what_is_returned_is_new_and_stays(self):
        store = Store((0, 0), 1)
        store.write(0, (1, 1))
        store.arrive(1)
        plan, came, ready, content = store.plan, store.came, store.ready, store.content
        came.append(7)
        ready.clear()
        plan.steps.clear()
        self.assertEqual([store.came, store.ready], [[1], [0]])
        store.arrive(0)
        store.write(0, (2,))
        self.assertEqual([plan.steps, content, came], [[(0, (1, 1))], (0, 1), [1, 7]])
        store.lose()
        self.assertEqual([plan.steps, plan.base], [[(0, (1, 1))], (0, 0)])
        pattern = {1: (1,), 0: (1,)}
        store.can_hold(pattern)
        self.assertEqual(list(pattern.items()), [(1, (1,)), (0, (1,))])

    def test_by_name(self):
        store = Store(width=1, base=(0, 0))
        store.write(worths=(1, 1), first=0)
        store.arrive(piece=1)
        self.assertEqual([store.content, store.can_hold(pattern={0: (1,)})], [(0, 1), True])


if __name__ == "__main__":
    unittest.main()
