"""The shell: its lines and what they say ([2], [28])."""

import random
import unittest

from afterfall.board import Board
from afterfall.errors import (Arrived, DuplicateName, FallError, InvalidLine, InvalidName, InvalidNumber, InvalidPattern,
                              InvalidStep, ParseError, TooEarly, TooMany, UnknownMark, UnknownName, UnknownPiece)
from afterfall.shell import Shell
from tests.oracle import ODD_THINGS

CREATE = "create main plan,1/base,0,0/write,0,1,1"

WRONG_LINES = [
    "", " ", "  ", "\n", "\t", "create", "create main", "create main a b", "create  main plan,1/base,0", " names", "names ",
    "names a", "names\n", "\nnames", "Names", "name", "batch", "batch a", "copy", "log", "put", "put main", "put main 0",
    "put main 0 ", "put main 0  1", "put main 00 1", "put main 01 1", "put main 100 1", "put main -1 1", "put main +1 1",
    "put main x 1", "put main 0 8", "put main 0 00", "put main 0 01", "put main 0 10", "put main 0 -1", "put main 0 x",
    "put main 0 1 8", "put main 0 1 1,1", "put main 0 1.1", "put main 1_0 1", "bar", "bar main main", "bar main 1",
    "bar\tmain", "bar main\n", "bar  main", "land main", "land main 0 1", "land main 100", "land main 00", "land main -1",
    "land main 0x", "land main x", "land main 1.", "land 0", "crash", "crash main 0", "play main", "play main 1 1",
    "play main 007", "play main 100", "play main -1", "drop", "drop a b", "mark", "mark a b", "back", "back a b", "content",
    "content a b", "came", "came a b", "ready", "ready a b", "text", "text a b", "holds", "holds main", "holds main 0",
    "holds main 0:", "holds main :0", "holds main :", "holds main 0:8", "holds main 0:0.0", "holds main 0:1.0",
    "holds main 0:0.1.", "holds main 0:.1", "holds main 0:0..1", "holds main 0:01", "holds main 00:0", "holds main 01:0",
    "holds main 100:0", "holds main -1:0", "holds main 0:0 0:1", "holds main 0:0 1:1 0:0", "holds main 0:0:1",
    "holds main 0:0 1", "holds main 0=0", "holds main 0:0,1", "holds main 0:10", "holds main 0:0.7.8", "holds main 0 :0",
    "holds main 0: 0", "holds main 0:\t0", "holds main 0:0.1 1:2.1", "0", "none", "-", "create main plan,1/base,0\n",
    "content main ", " content main", "content\nmain", "land main 0" + "0" * 5000, "land main " + "9" * 5000,
    "put main " + "1" * 4500 + " 1", "put main 0 " + "1" * 4500, "holds main " + "1" * 4500 + ":0", "names " * 2000,
    "bar ", "content ", "mark ", "names  ", "put  0 1", "land  0", "holds  0:0", "create  plan,1/base,0", "create main ",
    "holds main 0:" + "1" * 4500, "play main " + "0" * 4400, "x" * 5000]


class Examples(unittest.TestCase):
    def test_those_of_the_document(self):
        shell = Shell()
        self.assertEqual([shell.run(CREATE), shell.run("land main 1"), shell.run("bar main")], ["ok", "ok", "ok"])
        self.assertEqual([shell.run("put main 1 2"), shell.run("ready main"), shell.run("holds main 0:0 1:1.2"),
                          shell.run("content main"), shell.run("text main")],
                         ["ok", "0", "yes", "0 1", "plan,1/base,0,0/write,0,1,1/barrier/write,1,2"])

    def test_all_lines(self):
        shell = Shell()
        for line, wanted in (("names", "-"), (CREATE, "ok"), ("came main", "none"), ("ready main", "0 1"), ("names", "main"),
                             ("create a plan,24/base,7", "ok"), ("names", "a main"), ("ready a", "none"), ("content a", "7"),
                             ("came a", "none"), ("text a", "plan,24/base,7"), ("mark m", "ok"), ("land main 1", "ok"),
                             ("came main", "1"), ("play main 1", "ok"), ("came main", "1 0"), ("ready main", "none"),
                             ("put main 0 3 4", "ok"), ("bar main", "ok"), ("put main 1 0", "ok"), ("ready main", "2 3"),
                             ("text main", "plan,1/base,0,0/write,0,1,1/write,0,3,4/barrier/write,1,0"),
                             ("holds main 1:0", "yes"), ("holds main 0:1 1:0", "no"), ("holds main 1:0 0:3", "yes"),
                             ("holds main 0:0.1.2.3.4.5.6.7", "yes"), ("holds main 1:4 0:1", "yes"), ("crash main", "ok"),
                             ("content main", "1 1"), ("text main", "plan,1/base,1,1"), ("drop a", "ok"), ("names", "main"),
                             ("back m", "ok"), ("names", "a main"), ("came main", "none"), ("back m", "ok"),
                             ("drop main", "ok"), ("drop a", "ok"), ("names", "-")):
            self.assertEqual(shell.run(line), wanted, line)

    def test_names_like_commands(self):
        shell = Shell()
        for name in ("create", "names", "put", "holds", "batch", "none", "ok"):
            self.assertEqual(shell.run(f"create {name} plan,1/base,0/write,0,1"), "ok")
            self.assertEqual([shell.run(f"content {name}"), shell.run(f"land {name} 0"), shell.run(f"mark {name}")],
                             ["0", "ok", "ok"])
        self.assertEqual(shell.run("names"), "batch create holds names none ok put")


class Lines(unittest.TestCase):
    def test_what_is_no_line(self):
        shell = Shell()
        shell.run(CREATE)
        for line in WRONG_LINES + ODD_THINGS + [None, 0, (), [], {}, ["names"], ("names",)]:
            with self.assertRaises(InvalidLine, msg=repr(line)[:60]):
                shell.run(line)
        self.assertEqual([shell.run("names"), shell.run("text main"), shell.run("came main")],
                         ["main", "plan,1/base,0,0/write,0,1,1", "none"])

    def test_the_bounds_of_numbers(self):
        shell = Shell()
        shell.run(CREATE)
        for line, wrong in (("put main 99 7", InvalidStep), ("put main 2 0", InvalidStep), ("put main 0 0 0 0", InvalidStep),
                            ("put main 0" + " 1" * 25, InvalidStep), ("land main 99", UnknownPiece),
                            ("land main 2", UnknownPiece), ("play main 0", InvalidNumber), ("play main 3", InvalidNumber),
                            ("play main 99", InvalidNumber), ("holds main 2:0", InvalidPattern),
                            ("holds main 99:7 0:0", InvalidPattern)):
            with self.assertRaises(wrong):
                shell.run(line)
        self.assertEqual([shell.run("put main 0 7"), shell.run("put main 1 0"), shell.run("play main 4")], ["ok"] * 3)

    def test_lines_precede_the_errors_of_the_board(self):
        shell = Shell()
        shell.run(CREATE)
        for line, wrong in (("put none 9", InvalidLine), ("put none 9 9", InvalidLine), ("put none 9 1", UnknownName),
                            ("land none x", InvalidLine), ("land none 5", UnknownName), ("play none 0", UnknownName),
                            ("play NONE 00", InvalidLine), ("holds none 0", InvalidLine), ("holds none 9:0", UnknownName),
                            ("create MAIN a b", InvalidLine), ("create MAIN a", InvalidName), ("create main a", DuplicateName),
                            ("create other a", ParseError), ("mark M", InvalidName), ("mark M M", InvalidLine),
                            ("back m", UnknownMark), ("back M", UnknownMark), ("content M", UnknownName),
                            ("came \t", UnknownName), ("ready mainmainm", UnknownName), ("text main,", UnknownName),
                            ("crash 0", UnknownName), ("drop -", UnknownName), ("bar MAIN", UnknownName),
                            ("mark \t", InvalidName), ("create toolongname a", InvalidName)):
            with self.assertRaises(wrong, msg=line):
                shell.run(line)
        self.assertEqual(shell.run("names"), "main")

    def test_wrong_texts_and_their_lines(self):
        shell = Shell()
        for text, line in (("x", 0), ("plan,1", 1), ("plan,25/base,0", 0), ("plan,1/base", 1), ("plan,1/base,8", 1),
                           ("plan,1/base,0/barrier/write,1,0", 3), ("plan,1/base,0/", 2), ("/plan,1/base,0", 0),
                           ("plan,1//base,0", 1), ("plan,,1/base,0", 0), (",plan,1/base,0", 0), ("plan,1/base,0,", 1),
                           ("plan,1/base,0/write,0," + "1" * 4500, 2), ("plan,1/base,0/Barrier", 2), ("plan,1/base,0\t", 1),
                           ("plan,1/base,0" + "/barrier" * 41, 42), ("plan\t1/base,0", 0), ("/", 0), (",", 0)):
            with self.assertRaises(ParseError, msg=text[:60]) as caught:
                shell.run(f"create main {text}")
            self.assertEqual(caught.exception.line, line, text[:60])
        self.assertEqual([shell.run("create main plan,1/base,0" + "/barrier" * 40), shell.run("names")], ["ok", "main"])
        with self.assertRaises(TooMany):
            shell.run("bar main")

    def test_a_line_that_raises_an_error_changes_nothing(self):
        shell = Shell()
        for line in (CREATE, "bar main", "put main 0 2", "land main 0", "mark m"):
            shell.run(line)
        asked = ("names", "text main", "content main", "came main", "ready main", "holds main 0:1")
        before = [shell.run(line) for line in asked]
        for line, wrong in (("land main 0", Arrived), ("land main 2", TooEarly), ("mark m", DuplicateName),
                            ("put main 0 2 2 2", InvalidStep), ("play main 3", InvalidNumber), (CREATE, DuplicateName),
                            ("drop other", UnknownName), ("back main", UnknownMark), ("holds main 5:0", InvalidPattern),
                            ("crash", InvalidLine)):
            with self.assertRaises(wrong):
                shell.run(line)
            self.assertEqual([shell.run(line) for line in asked], before)

    def test_each_shell_has_a_board_of_its_own(self):
        one, two = Shell(), Shell()
        one.run(CREATE)
        self.assertEqual([one.run("names"), two.run("names")], ["main", "-"])
        self.assertEqual(two.run(line="names"), "-")


def any_line(chance):
    """A line as it is said to the shell, and as it is said to a board: the name of a call and its arguments."""
    name, first, worths = chance.choice("abbb"), chance.randrange(3), [chance.randrange(3) for _ in range(chance.randint(1, 2))]
    count = chance.randrange(4)
    text = chance.choice(("plan 1\nbase 0 0\nwrite 0 1 1", "plan 2\nbase 1 2\nbarrier\nwrite 1 0", "plan 1\nbase", "plan 3"))
    pattern = {cell: tuple(sorted(chance.sample(range(3), chance.randint(1, 2)))) for cell in
               chance.sample(range(3 if chance.random() < 0.2 else 2), chance.randint(1, 2))}
    held = " ".join(f"{cell}:{'.'.join(map(str, pattern[cell]))}" for cell in pattern)
    squeezed = text.replace("\n", "/").replace(" ", ",")
    return chance.choice((
        (f"create {name} {squeezed}", "create", name, text), (f"put {name} {first} " + " ".join(map(str, worths)), "put", name,
                                                             first, tuple(worths)),
        (f"bar {name}", "bar", name), (f"land {name} {count}", "land", name, count), (f"crash {name}", "crash", name),
        (f"play {name} {count}", "play", name, count), (f"drop {name}", "drop", name), (f"mark {name}", "mark", name),
        (f"back {name}", "back", name), (f"content {name}", "content_of", name), (f"came {name}", "came_of", name),
        (f"ready {name}", "ready_of", name), (f"text {name}", "text_of", name), (f"holds {name} {held}", "holds", name, pattern),
        ("names", "names")))


def said(name, result):
    """How the shell says what a board returns."""
    if name == "text_of":
        return result.replace("\n", "/").replace(" ", ",")
    if name == "holds":
        return "yes" if result else "no"
    if result is None:
        return "ok"
    return " ".join(map(str, result)) or ("-" if name == "names" else "none")


class AgainstABoard(unittest.TestCase):
    def test_drawn_lines(self):
        chance, seen = random.Random(85), {}
        for _ in range(60):
            shell, board = Shell(), Board()
            for _ in range(80):
                line, name, *more = any_line(chance)
                told, wanted = None, None
                try:
                    wanted = said(name, getattr(board, name)(*more) if more else board.names)
                except FallError as error:
                    wanted = (type(error), getattr(error, "line", None))
                try:
                    told = shell.run(line)
                except FallError as error:
                    told = (type(error), getattr(error, "line", None))
                self.assertEqual(told, wanted, line)
                seen[name, told if told in ("ok", "none", "-", "yes", "no") else type(told)] = True
        self.assertTrue(len(seen) > 30, seen)

    def test_thousands_of_lines(self):
        shell = Shell()
        for first in "abcde":
            for second in "abcde":
                shell.run(f"create {first}{second} plan,1/base,0,0/write,0,1,1")
        for turn in range(500):
            for line in ("crash ab", f"put ab 0 {turn % 8}", "land ab 0", f"put ab 1 {turn % 5}", "bar cd", "crash cd"):
                self.assertEqual(shell.run(line), "ok")
            self.assertEqual(shell.run(f"holds ab 1:{turn % 5}"), "yes")
        self.assertEqual([shell.run("content ab"), len(shell.run("names").split(" "))], ["3 0", 25])


if __name__ == "__main__":
    unittest.main()
