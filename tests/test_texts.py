"""Texts of plans ([2], [4], [10])."""

import random
import unittest

from afterfall.errors import ParseError
from afterfall.plans import Plan
from afterfall.texts import format_plan, parse_plan
from tests.oracle import ODD_THINGS, any_plan

EXAMPLE = "plan 2\nbase 0 0 0 0\nwrite 1 1 1\nbarrier\nwrite 2 2"


class Formatting(unittest.TestCase):
    def test_the_example(self):
        plan = Plan((0, 0, 0, 0), 2, [(1, (1, 1)), None, (2, (2,))])
        self.assertEqual(format_plan(plan), EXAMPLE)
        self.assertEqual(format_plan(plan=plan), EXAMPLE)

    def test_other_plans(self):
        self.assertEqual(format_plan(Plan((7,), 1, [])), "plan 1\nbase 7")
        self.assertEqual(format_plan(Plan((0, 1), 24, [None, None])), "plan 24\nbase 0 1\nbarrier\nbarrier")
        plan = Plan((0,) * 24, 10, [(23, (7,)), (10, (0, 1))])
        self.assertEqual(format_plan(plan), "plan 10\nbase" + " 0" * 24 + "\nwrite 23 7\nwrite 10 0 1")


class Parsing(unittest.TestCase):
    def right(self, text):
        plan = parse_plan(text)
        self.assertIsInstance(plan, Plan)
        self.assertEqual(format_plan(plan), text)
        return plan

    def wrong(self, text, line):
        with self.assertRaises(ParseError) as caught:
            parse_plan(text)
        self.assertIs(caught.exception.line.__class__, int)
        self.assertEqual(caught.exception.line, line, repr(text)[:200])

    def test_the_example(self):
        self.assertEqual(self.right(EXAMPLE), Plan((0, 0, 0, 0), 2, [(1, (1, 1)), None, (2, (2,))]))
        self.assertEqual(parse_plan(text=EXAMPLE), parse_plan(EXAMPLE))
        self.wrong("plan 1\nbase 0 0\nwrite 1 1 1", 2)

    def test_what_is_formatted_is_parsed(self):
        chance = random.Random(10)
        for _ in range(500):
            plan = any_plan(chance, Plan, 40)
            self.assertEqual(parse_plan(format_plan(plan)), plan)

    def test_what_is_no_string_is_wrong_at_line_0(self):
        for thing in ODD_THINGS + [None, 0, [], (), {}, ["plan 1", "base 0"], ("plan 1\nbase 0",), [EXAMPLE]]:
            if thing != "plan 1":
                self.wrong(thing, 0)

    def test_missing_lines(self):
        self.wrong("plan 1", 1)
        self.wrong("plan 24", 1)
        self.right("plan 1\nbase 0")

    def test_every_string_has_a_first_line(self):
        self.wrong("", 0)
        self.wrong("\n", 0)
        self.wrong("\nplan 1\nbase 0", 0)
        self.wrong("plan 1\n", 1)
        self.wrong("plan 1\n\nbase 0", 1)
        self.wrong("plan 1\nbase 0\n", 2)
        self.wrong(EXAMPLE + "\n", 5)
        self.wrong("plan 1\nbase 0\n\nbarrier", 2)

    def test_first_lines(self):
        for width in range(1, 25):
            self.assertEqual(self.right(f"plan {width}\nbase 0").width, width)
        for line in ("plan", "plan ", "plan 0", "plan 25", "plan 99", "plan 100", "plan -1", "plan +1", "plan 01",
                     "plan 00", "plan 1 1", "plan 1 ", " plan 1", "plan  1", "plan\t1", "plan 1\t", "plan 1\r", "Plan 1",
                     "PLAN 1", "plan1", "plan x", "plan 1.0", "plan 1_0", "plan None", "plan True", "base 0", "barrier",
                     "plan 1,", "plan 0x1", "plan " + "1" * 5000, "plan " + "0" * 5000, "plan 0" + "1" * 4999,
                     "plan 1 " * 1000, "x" * 5000, "plans 1", "1", "plan 1 plan 1"):
            self.wrong(line, 0)
            self.wrong(line + "\nbase 0", 0)
            self.wrong(line + "\nbase 8\nwrong", 0)

    def test_figures_are_those_from_0_to_9(self):
        for figure in ("\u0661", "\u00b9", "\u0967", "\uff11", "\u2460", "\u00bd"):
            self.wrong(f"plan {figure}\nbase 0", 0)
            self.wrong(f"plan 1\nbase {figure}", 1)
            self.wrong(f"plan 1\nbase 0 0\nwrite 0 {figure}", 2)
            self.wrong(f"plan 1\nbase 0 0\nwrite {figure} 0", 2)
        self.wrong("plan\u00a01\nbase 0", 0)

    def test_only_line_feeds_separate_lines(self):
        for sign in ("\r", "\r\n", "\x0b", "\x0c", "\x1c", "\x85", "\u2028"):
            self.wrong(f"plan 1{sign}base 0", 0)
        self.wrong("plan 1\nbase 0\x0bbarrier", 1)
        self.wrong("plan 1\nbase 0\r\nbarrier", 1)
        self.wrong("plan 1\nbase 0\nbarrier\r", 2)

    def test_base_lines(self):
        for many in (1, 2, 23, 24):
            self.assertEqual(self.right("plan 1\nbase" + " 7" * many).base, (7,) * many)
        self.assertEqual(self.right("plan 1\nbase 0 1 2 3 4 5 6 7").base, (0, 1, 2, 3, 4, 5, 6, 7))
        for line in ("base", "base ", "base 8", "base 0 8", "base 9", "base 10", "base -1", "base +1", "base 00",
                     "base 01", "base 0 ", " base 0", "base  0", "base 0  0", "base\t0", "base 0\t0", "base0", "Base 0",
                     "base 0,0", "base x", "base 0 x", "base" + " 0" * 25, "base" + " 0" * 3000, "base " + "1" * 5000,
                     "base 0 " + "0" * 5000, "plan 1", "barrier", "write 0 0", "", "0", "bases 0"):
            self.wrong("plan 1\n" + line, 1)
            self.wrong("plan 1\n" + line + "\nbarrier", 1)
            self.wrong("plan 1\n" + line + "\nwrong", 1)

    def test_step_lines(self):
        start = "plan 1\nbase 0 0 0"
        for line, step in (("barrier", None), ("write 0 0", (0, (0,))), ("write 2 7", (2, (7,))),
                           ("write 0 1 2 3", (0, (1, 2, 3))), ("write 1 2 3", (1, (2, 3)))):
            self.assertEqual(self.right(start + "\n" + line).steps, [step])
            self.assertEqual(self.right(start + "\nbarrier\n" + line + "\nbarrier").steps, [None, step, None])
        for line in ("", " ", "barrier ", " barrier", "barrier 0", "Barrier", "barriers", "barrier\t", "write",
                     "write ", "write 0", "write 0 ", "write  0 0", "write 0  0", "write 0 0 ", " write 0 0",
                     "write\t0 0", "write 0\t0", "write 0 0\t", "write 3 0", "write 2 0 0", "write 1 0 0 0",
                     "write 0 0 0 0 0", "write 0 8", "write 0 0 8", "write 0 10", "write -1 0", "write 0 -1",
                     "write +0 0", "write 0 +0", "write 00 0", "write 0 00", "write 0 01", "write 01 1", "write x 0",
                     "write 0 x", "Write 0 0", "write0 0", "writes 0 0", "0 0", "write " + "0" * 5000 + " 0",
                     "write 0 " + "1" * 5000, "write " + "1" * 5000 + " 0", "write 0 " + "0" * 5000,
                     "write 0" + " 0" * 2400, "plan 1", "base 0 0 0", "write 0 0,0", "write None 0", "None"):
            self.wrong(start + "\n" + line, 2)
            self.wrong(start + "\n" + line + "\nbarrier", 2)
            self.wrong(start + "\nbarrier\n" + line, 3)
            self.wrong(start + "\nwrite 0 1\nbarrier\n" + line + "\nwrong", 4)

    def test_the_first_wrong_line_counts(self):
        self.wrong("plan 0\nbase 8\nwrite 9 9", 0)
        self.wrong("plan 1\nbase 8\nwrite 9 9", 1)
        self.wrong("plan 1\nbase 0\nwrite 9 9\nwrong", 2)

    def test_a_forty_first_step_is_wrong_at_its_line(self):
        start = "plan 1\nbase 0"
        self.assertEqual(len(self.right(start + "\nbarrier" * 40).steps), 40)
        self.assertEqual(len(self.right(start + "\nwrite 0 1" * 40).pieces), 40)
        self.wrong(start + "\nbarrier" * 41, 42)
        self.wrong(start + "\nwrite 0 1" * 41, 42)
        self.wrong(start + "\nbarrier" * 40 + "\nwrite 0 1", 42)
        self.wrong(start + "\nbarrier" * 500, 42)
        self.wrong(start + "\nbarrier" * 39 + "\nwrong" + "\nbarrier", 41)
        self.wrong(start + "\nbarrier" * 40 + "\n", 42)

    def test_a_forty_first_piece_is_wrong_at_its_line(self):
        start = "plan 1\nbase" + " 0" * 24
        most = start + "\nwrite 0" + " 1" * 24 + "\nbarrier\nwrite 0" + " 1" * 16
        self.assertEqual(len(self.right(most).pieces), 40)
        self.assertEqual(len(self.right(most + "\nbarrier").pieces), 40)
        self.wrong(most + "\nwrite 0 1", 5)
        self.wrong(most + "\nbarrier\nwrite 0 1\nbarrier", 6)
        self.wrong(most + " 1", 4)
        self.wrong(most + " 1\nbarrier", 4)
        self.wrong(start + ("\nwrite 0" + " 1" * 24) * 2, 3)
        self.assertEqual(len(self.right("plan 24\nbase" + " 0" * 24 + ("\nwrite 0" + " 1" * 24) * 40).pieces), 40)
        self.wrong("plan 23\nbase" + " 0" * 24 + ("\nwrite 0" + " 1" * 24) * 21, 22)

    def test_each_line_left_out_or_changed(self):
        lines = EXAMPLE.split("\n")
        for at, line in enumerate(lines):
            for other in (line + " ", " " + line, line.replace(" ", "  "), line + " 8", line.upper()):
                if other != line:
                    self.wrong("\n".join(lines[:at] + [other] + lines[at + 1:]), at)


if __name__ == "__main__":
    unittest.main()
