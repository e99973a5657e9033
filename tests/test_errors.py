"""The errors of the interface, and that they copy their arguments ([2])."""

import unittest

from afterfall import errors
from afterfall.errors import Always, FallError, ParseError

PLAIN = """InvalidContent InvalidPattern InvalidPlan InvalidStep UnknownStep UnknownPiece InvalidFall InvalidClaims
UnknownEpoch Shut UnknownCell InvalidNumber Mismatch InvalidGuards UnknownGap InvalidPrices InvalidWorths
InvalidBarriers InvalidRules InvalidHistory TooMany Arrived TooEarly NothingToUndo InvalidName DuplicateName
UnknownName UnknownMark InvalidCommand InvalidLine""".split()


class TheErrors(unittest.TestCase):
    def test_the_base_is_a_value_error(self):
        self.assertEqual(FallError.__bases__, (ValueError,))

    def test_each_is_a_direct_subclass_that_is_constructed_with_a_string(self):
        for name in PLAIN:
            with self.subTest(name):
                error = getattr(errors, name)
                self.assertEqual(error.__bases__, (FallError,))
                self.assertEqual(error.__name__, name)
                self.assertEqual(error.__module__, "afterfall.errors")
                with self.assertRaises(error):
                    raise error("why")

    def test_parse_error_has_its_line(self):
        self.assertEqual(ParseError.__bases__, (FallError,))
        self.assertEqual([ParseError(0).line, ParseError(7).line, ParseError(line=3).line], [0, 7, 3])

    def test_always_has_its_guard_and_its_course(self):
        self.assertEqual(Always.__bases__, (FallError,))
        error = Always(2, [1, 0])
        self.assertEqual([error.guard, error.course], [2, [1, 0]])
        error = Always(guard=0, course=[[1], []])
        self.assertEqual([error.guard, error.course], [0, [[1], []]])

    def test_always_copies_a_fall(self):
        fall = [1, 0]
        error = Always(0, fall)
        fall.append(2)
        self.assertEqual(error.course, [1, 0])
        error.course.clear()
        self.assertEqual(fall, [1, 0, 2])

    def test_always_copies_each_fall_of_a_history(self):
        history = [[0], [1, 2]]
        error = Always(0, history)
        history[1].append(3)
        history.append([4])
        self.assertEqual(error.course, [[0], [1, 2]])
        error.course[0].append(5)
        self.assertEqual(history, [[0], [1, 2, 3], [4]])

    def test_a_fall_that_stands_twice_in_a_history_is_copied_twice(self):
        fall = [0]
        error = Always(0, [fall, fall])
        error.course[0].append(1)
        self.assertEqual(error.course, [[0, 1], [0]])


if __name__ == "__main__":
    unittest.main()
