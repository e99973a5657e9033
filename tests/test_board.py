"""The board: commands, batches, marks, queries and the log ([2], [26], [27])."""

import random
import unittest

from afterfall.board import Board
from afterfall.errors import (Arrived, DuplicateName, FallError, InvalidCommand, InvalidName, InvalidNumber,
                              InvalidPattern, InvalidStep, ParseError, TooEarly, TooMany, UnknownMark, UnknownName,
                              UnknownPiece)
from afterfall.stores import Store
from afterfall.texts import format_plan, parse_plan
from tests.oracle import ODD_THINGS, any_pattern
from tests.test_finding import WRONG_PATTERNS

TEXT = "plan 1\nbase 0 0\nwrite 0 1 1"
NAMES = [thing for thing in ODD_THINGS if thing != "a"]
WRONG_NAMES = ["", "A", "aB", "a1", "a b", "a_b", " a", "a ", "abcdefghi", "a\n", "\na", "\t", "-", "0", None, 0, True, (), [],
               ("a",), ["a"], {"a": 1}, {}] + NAMES
ARITIES = {"create": 2, "put": 3, "bar": 1, "land": 2, "crash": 1, "play": 2, "drop": 1, "mark": 1, "back": 1}


def shown(board):
    """All that a board shows of itself, but for the log."""
    return [(name, board.text_of(name), board.content_of(name), board.came_of(name), board.ready_of(name))
            for name in board.names]


class Model:
    """The words of [26] and [27], with a live store for each name, copied wherever states are kept."""

    def __init__(self):
        self.stores, self.marks, self.log = {}, {}, []

    def kept(self):
        return {name: store.copy() for name, store in self.stores.items()}

    def run(self, command, *more):
        """The result of a command, or the error that it raises."""
        self.log.append(command)
        try:
            result = getattr(self, command)(*more)
        except FallError as error:
            self.log.append("failed")
            raise error
        self.log.append("done")
        return result

    @staticmethod
    def is_name(thing):
        return isinstance(thing, str) and 1 <= len(thing) <= 8 and all("a" <= sign <= "z" for sign in thing)

    def store(self, name):
        if not self.is_name(name) or name not in self.stores:
            raise UnknownName("")
        return self.stores[name]

    def free(self, name, taken):
        if not self.is_name(name):
            raise InvalidName("")
        if name in taken:
            raise DuplicateName("")

    def create(self, name, text):
        self.free(name, self.stores)
        plan = parse_plan(text)
        store = Store(plan.base, plan.width)
        for step in plan.steps:
            store.barrier() if step is None else store.write(*step)
        self.stores[name] = store

    def put(self, name, first, worths):
        self.store(name).write(first, worths)

    def bar(self, name):
        self.store(name).barrier()

    def land(self, name, piece):
        self.store(name).arrive(piece)

    def crash(self, name):
        self.store(name).lose()

    def play(self, name, count):
        store = self.store(name)
        if type(count) is not int or not 1 <= count <= len(store.plan.pieces) - len(store.came):
            raise InvalidNumber("")
        for _ in range(count):
            store.arrive(min(store.ready))

    def drop(self, name):
        self.store(name)
        del self.stores[name]

    def mark(self, label):
        self.free(label, self.marks)
        self.marks[label] = self.kept()

    def back(self, label):
        if not self.is_name(label) or label not in self.marks:
            raise UnknownMark("")
        self.stores = {name: store.copy() for name, store in self.marks[label].items()}

    def batch(self, commands):
        if not isinstance(commands, list):
            raise InvalidCommand("")
        kept, marks = self.kept(), dict(self.marks)
        try:
            results = []
            for item in commands:
                if not isinstance(item, tuple) or not item or not isinstance(item[0], str):
                    raise InvalidCommand("")
                if ARITIES.get(item[0]) != len(item) - 1:
                    raise InvalidCommand("")
                results.append(self.run(*item))
            return results
        except FallError:
            self.stores, self.marks = kept, marks
            raise

    def shown(self):
        return [(name, format_plan(store.plan), store.content, store.came, store.ready)
                for name, store in sorted(self.stores.items())]


def any_item(chance, board):
    """A command as a tuple, mostly one that raises no error."""
    name, label = chance.choice("aaabbc"), chance.choice("abc")
    if chance.random() < 0.05:
        name = chance.choice(("A", "", None, "q"))
    ready = board.ready_of(name) if name in board.names else []
    texts = (TEXT, "plan 2\nbase 0 1", "plan 1\nbase 0\nwrite 0 1\nbarrier\nwrite 0 2", "plan 1\nbase 0\nwrite 1 1", "")
    return chance.choice((
        ("create", name, chance.choice(texts)), ("put", name, chance.randrange(3), (chance.randrange(3),)), ("bar", name),
        ("land", name, chance.choice(ready or [0])), ("land", name, chance.randrange(4)), ("crash", name),
        ("play", name, chance.randint(0, 3)), ("drop", name), ("mark", label), ("back", label), ("put", name, 0, (1, 2))))


def any_batch(chance, board):
    items = [any_item(chance, board) for _ in range(chance.randint(0, 4))]
    if chance.random() < 0.2:
        wrong = chance.choice((None, ("batch", []), ("bar",), ("bar", "a", 1), ["bar", "a"], (), ("names",), "bar"))
        items.insert(chance.randint(0, len(items)), wrong)
    return items


class Examples(unittest.TestCase):
    def test_those_of_the_document(self):
        board = Board()
        board.create("main", TEXT)
        self.assertEqual([board.land("main", 1), board.content_of("main"), board.play("main", 1), board.came_of("main"),
                          board.holds("main", {1: (0,)})], [None, (0, 1), None, [1, 0], False])

    def test_a_text_is_where_a_store_begins(self):
        board = Board()
        text = "plan 2\nbase 0 0 0\nwrite 1 1 1\nbarrier\nwrite 0 2"
        self.assertIsNone(board.create("main", text))
        self.assertEqual(shown(board), [("main", text, (0, 0, 0), [], [0, 1])])
        board.bar("main")
        board.put("main", 2, (7,))
        self.assertEqual(board.text_of("main"), text + "\nbarrier\nwrite 2 7")
        board.land("main", 1)
        board.crash("main")
        self.assertEqual(shown(board), [("main", "plan 2\nbase 0 0 1", (0, 0, 1), [], [])])
        board.drop("main")
        self.assertEqual([board.names, board.copy().names], [[], []])

    def test_names_are_sorted(self):
        board = Board()
        for name in ("b", "ab", "a", "abcdefgh", "z", "aa", "zzzzzzzz"):
            board.create(name, TEXT)
        self.assertEqual(board.names, ["a", "aa", "ab", "abcdefgh", "b", "z", "zzzzzzzz"])

    def test_play_takes_the_least_piece_each_time_anew(self):
        board = Board()
        board.create("a", "plan 1\nbase 0 0\nwrite 0 1 1\nwrite 0 2\nbarrier\nwrite 0 3 3")
        board.land("a", 1)
        board.play("a", 1)
        self.assertEqual(board.came_of("a"), [1, 0])
        for count in (0, 4, 5, -1, True, False, None, "1", (1,), [1], 10 ** 39, {1: 1}):
            with self.assertRaises(InvalidNumber):
                board.play("a", count)
        board.play("a", 2)
        self.assertEqual(board.came_of("a"), [1, 0, 2, 3])
        board.play("a", 1)
        self.assertEqual([board.came_of("a"), board.content_of("a")], [[1, 0, 2, 3, 4], (3, 3)])
        for count in (0, 1):
            with self.assertRaises(InvalidNumber):
                board.play("a", count)

    def test_holds(self):
        board = Board()
        board.create("a", TEXT)
        self.assertEqual([board.holds("a", {0: (1,), 1: (0,)}), board.holds("a", {0: (2,)})], [True, False])
        board.land("a", 1)
        self.assertEqual([board.holds("a", {1: (0,)}), board.holds("a", {0: (0, 1)}), board.holds("a", {})],
                         [False, True, True])


class Marks(unittest.TestCase):
    def test_back_restores_all_stores_any_number_of_times(self):
        board = Board()
        board.create("a", TEXT)
        board.mark("a")
        first = shown(board)
        board.land("a", 0)
        board.create("b", TEXT)
        board.mark("b")
        second = shown(board)
        board.drop("a")
        board.crash("b")
        for _ in range(3):
            board.back("a")
            self.assertEqual(shown(board), first)
            with self.assertRaises(UnknownName):
                board.content_of("b")
            board.bar("a")
            board.back("b")
            self.assertEqual(shown(board), second)
            board.drop("b")
        board.mark("c")
        board.back("a")
        for label in "abc":
            with self.assertRaises(DuplicateName):
                board.mark(label)
        board.back("c")
        self.assertEqual(board.names, ["a"])

    def test_labels_and_names_are_independent(self):
        board = Board()
        board.mark("a")
        board.create("a", TEXT)
        board.create("b", TEXT)
        board.mark("b")
        with self.assertRaises(UnknownName):
            board.bar("c")
        with self.assertRaises(UnknownMark):
            board.back("c")
        board.drop("a")
        with self.assertRaises(DuplicateName):
            board.mark("a")
        board.back("a")
        self.assertEqual(board.names, [])


class Batches(unittest.TestCase):
    def test_results_and_log(self):
        board = Board()
        self.assertEqual(board.batch([("create", "a", TEXT), ("land", "a", 0), ("mark", "m"), ("play", "a", 1)]), [None] * 4)
        self.assertEqual(board.log, ["batch", "create", "done", "land", "done", "mark", "done", "play", "done", "done"])
        self.assertEqual([board.batch([]), board.log[-2:]], [[], ["batch", "done"]])
        self.assertEqual([board.came_of("a"), board.content_of("a")], [[0, 1], (1, 1)])

    def test_one_that_fails_leaves_all_as_it_was(self):
        board = Board()
        board.create("a", TEXT)
        board.mark("m")
        board.land("a", 0)
        before, many = shown(board), len(board.log)
        for item, wrong in ((("land", "a", 0), UnknownName), (("create", "b", TEXT), DuplicateName),
                            (("create", "c", "plan 1\nbase 8"), ParseError), (("mark", "n"), DuplicateName),
                            (("back", "o"), UnknownMark), (("play", "b", 3), InvalidNumber),
                            (("put", "b", 5, (1,)), InvalidStep), (("land", "b", 7), UnknownPiece),
                            (("batch", []), InvalidCommand), (("run",), InvalidCommand)):
            with self.assertRaises(wrong):
                board.batch([("mark", "n"), ("back", "m"), ("create", "b", TEXT), ("drop", "a"), ("bar", "b"), item,
                             ("mark", "p")])
            self.assertEqual(shown(board), before)
            for label in "np":
                with self.assertRaises(UnknownMark):
                    board.back(label)
            done = ["mark", "done", "back", "done", "create", "done", "drop", "done", "bar", "done"]
            failed = [] if wrong is InvalidCommand else [item[0], "failed"]
            self.assertEqual(board.log[many:], ["batch", *done, *failed, "failed"] + ["back", "failed"] * 2)
            many = len(board.log)

    def test_items_that_are_no_commands(self):
        board = Board()
        things = [(), ("bar",), ("bar", "a", 0), ("create", "a"), ("create", "a", TEXT, 0), ("put", "a", 0), ("land", "a"),
                  ("put", "a", 0, (1,), 0), ("mark",), ("back",), ("drop",), ("crash",), ("play", "a"), ("batch", []),
                  ("batch",), ["bar", "a"], "bar", ("names",), ("copy",), ("content_of", "a"), ("holds", "a", {}), ("log",),
                  ("Bar", "a"), ("",), (None,), (0, "a"), (["bar"], "a"), (("bar",), "a"), ({}, "a"), ("__init__",), None,
                  ("bar\n", "a"), {"bar": "a"}, {0: "bar"}, [("bar", "a")]]
        for thing in things + ODD_THINGS:
            many = len(board.log)
            with self.assertRaises(InvalidCommand, msg=repr(thing)[:60]):
                board.batch([("create", "a", TEXT), ("bar", "a"), thing, ("bar", "z")])
            self.assertEqual(board.names, [])
            self.assertEqual(board.log[many:], ["batch", "create", "done", "bar", "done", "failed"])

    def test_what_is_no_list(self):
        board = Board()
        for thing in [None, (), (("bar", "a"),), {}, "bar", 0] + [odd for odd in ODD_THINGS if not isinstance(odd, list)]:
            with self.assertRaises(InvalidCommand):
                board.batch(thing)
            self.assertEqual(board.log[-2:], ["batch", "failed"])

    def test_the_first_error_counts(self):
        board = Board()
        with self.assertRaises(UnknownName):
            board.batch([("bar", "a"), None])
        with self.assertRaises(InvalidCommand):
            board.batch([None, ("bar", "a")])
        with self.assertRaises(ParseError) as caught:
            board.batch([("create", "a", "plan 1\nbase 0\nbarriers")])
        self.assertEqual(caught.exception.line, 2)

    def test_lists_can_be_changed(self):
        board = Board()
        commands = [("create", "a", TEXT), ("put", "a", 0, (5,))]
        results = board.batch(commands)
        commands.clear()
        results.append(0)
        self.assertEqual(board.text_of("a"), TEXT + "\nwrite 0 5")
        self.assertEqual(board.batch([("bar", "a")]), [None])


class TheLog(unittest.TestCase):
    def test_two_entries_for_each_command(self):
        board = Board()
        for name, more in (("create", ("a", TEXT)), ("bar", ("a",)), ("put", ("a", 0, (1,))), ("land", ("a", 0)),
                           ("play", ("a", 1)), ("mark", ("a",)), ("crash", ("a",)), ("back", ("a",)), ("drop", ("a",))):
            self.assertIsNone(getattr(board, name)(*more))
            self.assertEqual(board.log[-2:], [name, "done"])
            with self.assertRaises(FallError):
                getattr(board, name)(*(None for _ in more))
            self.assertEqual(board.log[-2:], [name, "failed"])
        self.assertEqual(len(board.log), 36)

    def test_queries_have_none(self):
        board = Board()
        board.create("a", TEXT)
        for _ in range(2):
            shown(board)
            board.holds("a", {})
            board.copy()
            for query in (board.content_of, board.came_of, board.ready_of, board.text_of):
                with self.assertRaises(UnknownName):
                    query("b")
            with self.assertRaises(UnknownName):
                board.holds("b", {})
            with self.assertRaises(InvalidPattern):
                board.holds("a", None)
        self.assertEqual(board.log, ["create", "done"])

    def test_entries_stay(self):
        board = Board()
        board.mark("a")
        board.create("a", TEXT)
        board.back("a")
        with self.assertRaises(InvalidCommand):
            board.batch([("back", "a"), ("create", "a", TEXT), 0])
        self.assertEqual(board.log, ["mark", "done", "create", "done", "back", "done", "batch", "back", "done", "create",
                                     "done", "failed"])
        log = board.log
        log.clear()
        self.assertEqual(len(board.log), 12)


class Copies(unittest.TestCase):
    def test_each_goes_its_own_way(self):
        board = Board()
        board.create("a", TEXT)
        board.mark("m")
        board.land("a", 1)
        other = board.copy()
        self.assertEqual([shown(other), other.log], [shown(board), []])
        third = other.copy()
        other.mark("n")
        other.crash("a")
        third.back("m")
        third.create("b", TEXT)
        board.drop("a")
        self.assertEqual([board.names, other.names, third.names], [[], ["a"], ["a", "b"]])
        self.assertEqual([other.content_of("a"), third.content_of("a")], [(0, 1), (0, 0)])
        for one in (board, third):
            with self.assertRaises(UnknownMark):
                one.back("n")
        board.back("m")
        self.assertEqual([board.content_of("a"), other.log, third.log],
                         [(0, 0), ["mark", "done", "crash", "done"], ["back", "done", "create", "done", "back", "failed"]])


class AgainstTheModel(unittest.TestCase):
    def test_drawn_commands(self):
        chance, seen = random.Random(84), {}
        for _ in range(60):
            pairs = [(Board(), Model())]
            for _ in range(60):
                board, model = chance.choice(pairs)
                item = any_item(chance, board)
                if chance.random() < 0.25:
                    item = ("batch", any_batch(chance, board))
                told, wanted = [], []
                for one, call in ((told, lambda: getattr(board, item[0])(*item[1:])), (wanted, lambda: model.run(*item))):
                    try:
                        one.append(call())
                    except FallError as error:
                        one.append((type(error), getattr(error, "line", None)))
                self.assertEqual(told, wanted, item)
                seen[item[0], told[0][0] if isinstance(told[0], tuple) else None] = True
                self.assertEqual(board.log, model.log)
                if chance.random() < 0.05 and len(pairs) < 3:
                    other = Model()
                    other.stores, other.marks = model.kept(), dict(model.marks)
                    pairs.append((board.copy(), other))
                for one, other in pairs:
                    self.assertEqual(shown(one), other.shown())
                for name in board.names:
                    pattern = any_pattern(chance, len(board.content_of(name)))
                    self.assertIs(board.holds(name, pattern), model.stores[name].can_hold(pattern))
        self.assertTrue(len(seen) > 30, seen)

    def test_thousands_of_commands_and_hundreds_of_marks(self):
        board = Board()
        letters = "abcdefghijklmnopqrst"
        for one in letters[:6]:
            for two in letters[:6]:
                board.create(one + two, TEXT)
        for turn, one in enumerate(letters):
            for two in letters:
                board.mark(one + two)
                board.batch([("crash", "aa"), ("put", "aa", 0, (1,)), ("put", "aa", 1, (turn % 8,)), ("bar", "bb"),
                             ("land", "aa", 1), ("play", "aa", 1)] if turn or two != "a" else [])
                with self.assertRaises(FallError):
                    board.batch([("crash", "bb"), ("drop", "cc"), ("bar", "cc")])
                board.crash("bb")
        self.assertEqual([len(board.names), board.content_of("aa"), board.content_of("cc")], [36, (1, 3), (0, 0)])
        board.back("aa")
        self.assertEqual(board.text_of("aa"), TEXT)
        board.back("tt")
        self.assertEqual(board.content_of("aa"), (1, 3))


class Rest(unittest.TestCase):
    def test_errors_in_their_order(self):
        board = Board()
        board.create("a", TEXT)
        board.put("a", 0, (1, 1))
        board.bar("a")
        board.put("a", 0, (2,))
        board.land("a", 0)
        board.mark("m")
        before = shown(board)
        for call, wrong in (
                (lambda: board.create("A", None), InvalidName), (lambda: board.create("a", None), DuplicateName),
                (lambda: board.create("b", None), ParseError), (lambda: board.create("b", "plan 1"), ParseError),
                (lambda: board.put("b", None, None), UnknownName), (lambda: board.put("a", 2, (1,)), InvalidStep),
                (lambda: board.put("a", 0, [1]), InvalidStep), (lambda: board.bar("b"), UnknownName),
                (lambda: board.land("b", None), UnknownName), (lambda: board.land("a", 5), UnknownPiece),
                (lambda: board.land("a", True), UnknownPiece), (lambda: board.land("a", 0), Arrived),
                (lambda: board.land("a", 4), TooEarly), (lambda: board.crash("b"), UnknownName),
                (lambda: board.play("b", None), UnknownName), (lambda: board.play("a", 5), InvalidNumber),
                (lambda: board.drop("b"), UnknownName), (lambda: board.mark("M"), InvalidName),
                (lambda: board.mark("m"), DuplicateName), (lambda: board.back("a"), UnknownMark),
                (lambda: board.holds("b", None), UnknownName), (lambda: board.holds("a", {2: (0,)}), InvalidPattern)):
            with self.assertRaises(wrong):
                call()
            self.assertEqual(shown(board), before)

    def test_too_many(self):
        board = Board()
        board.create("a", "plan 1\nbase 0" + "\nbarrier" * 39)
        board.put("a", 0, (1,))
        for _ in range(2):
            with self.assertRaises(TooMany):
                board.put("a", 0, (1,))
            with self.assertRaises(TooMany):
                board.bar("a")
            with self.assertRaises(InvalidStep):
                board.put("a", 1, (1,))

    def test_wrong_names(self):
        board = Board()
        board.create("a", TEXT)
        for name in WRONG_NAMES:
            for call, wrong in ((lambda: board.create(name, TEXT), InvalidName), (lambda: board.mark(name), InvalidName),
                                (lambda: board.back(name), UnknownMark), (lambda: board.put(name, 0, (1,)), UnknownName),
                                (lambda: board.bar(name), UnknownName), (lambda: board.land(name, 0), UnknownName),
                                (lambda: board.crash(name), UnknownName), (lambda: board.play(name, 1), UnknownName),
                                (lambda: board.drop(name), UnknownName), (lambda: board.content_of(name), UnknownName),
                                (lambda: board.came_of(name), UnknownName), (lambda: board.ready_of(name), UnknownName),
                                (lambda: board.text_of(name), UnknownName), (lambda: board.holds(name, {}), UnknownName)):
                with self.assertRaises(wrong, msg=repr(name)[:60]):
                    call()
        self.assertEqual(board.names, ["a"])

    def test_names_of_one_and_eight_letters(self):
        board = Board()
        for name in ("a", "z", "abcdefgh", "zzzzzzzz", "create", "batch", "none"):
            board.create(name, TEXT)
            board.mark(name)
            board.back(name)
            board.crash(name)
        for name in WRONG_PATTERNS + ODD_THINGS:
            with self.assertRaises(InvalidPattern, msg=repr(name)[:60]):
                board.holds("create", name)

    def test_any_object_in_any_place(self):
        board = Board()
        board.create("a", TEXT)
        for thing in ODD_THINGS + [None]:
            with self.assertRaises(ParseError):
                board.create("b", thing)
            with self.assertRaises(InvalidStep):
                board.put("a", thing, (1,))
            with self.assertRaises(InvalidStep):
                board.put("a", 0, thing)
            with self.assertRaises(UnknownPiece):
                board.land("a", thing)
            with self.assertRaises(InvalidNumber):
                board.play("a", thing)

    def test_lists_that_are_returned_can_be_changed(self):
        board = Board()
        board.create("a", TEXT)
        board.land("a", 1)
        for listed in (board.names, board.came_of("a"), board.ready_of("a"), board.log):
            listed.append(0)
        self.assertEqual([board.names, board.came_of("a"), board.ready_of("a"), len(board.log)], [["a"], [1], [0], 4])

    def test_by_name(self):
        board = Board()
        board.create(text=TEXT, name="a")
        board.put(worths=(1,), first=0, name="a")
        board.bar(name="a")
        board.land(piece=1, name="a")
        board.play(count=1, name="a")
        board.mark(label="a")
        board.crash(name="a")
        board.back(label="a")
        self.assertEqual(board.batch(commands=[("bar", "a")]), [None])
        self.assertEqual([board.content_of(name="a"), board.came_of(name="a"), board.ready_of(name="a"),
                          board.text_of(name="a")], [(1, 1), [1, 0], [2], TEXT + "\nwrite 0 1\nbarrier\nbarrier"])
        self.assertIs(board.holds(pattern={0: (0,)}, name="a"), False)
        board.drop(name="a")
        self.assertEqual(board.names, [])


if __name__ == "__main__":
    unittest.main()
