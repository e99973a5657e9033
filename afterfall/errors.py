"""The errors of the program."""


class FallError(ValueError):
    """The base of all errors."""


class ParseError(FallError):
    """A text is not that of a plan; `line` is the index of the first wrong line."""

    def __init__(self, line):
        super().__init__(f"line {line} is wrong or missing")
        self.line = line


class Always(FallError):
    """A guard can be found whatever barriers are put in; the course leads to it."""

    def __init__(self, guard, course):
        super().__init__(f"guard {guard} can be found with barriers in all gaps")
        self.guard = guard
        self.course = copied(course)


def copied(course):
    """Return a course, a fall or a history, that shares no list with this one."""
    if isinstance(course, list):
        return [copied(part) for part in course]
    return course


class InvalidContent(FallError):
    """What should be a content is none."""


class InvalidPattern(FallError):
    """What should be a pattern is none."""


class InvalidPlan(FallError):
    """What should make a plan makes none."""


class InvalidStep(FallError):
    """What should be a step is none for this store."""


class UnknownStep(FallError):
    """There is no step with this index."""


class UnknownPiece(FallError):
    """There is no piece with this number."""


class InvalidFall(FallError):
    """What should be a fall of the plan is none."""


class InvalidClaims(FallError):
    """What should be claims of the plan are none."""


class UnknownEpoch(FallError):
    """There is no epoch with this number."""


class Shut(FallError):
    """There is no fall that fits the claims and after which the pattern is found."""


class UnknownCell(FallError):
    """There is no such cell, or no such list of cells."""


class InvalidNumber(FallError):
    """What should be a number is none, or not one of those that are allowed."""


class Mismatch(FallError):
    """Two plans do not have as many cells."""


class InvalidGuards(FallError):
    """What should be guards are none."""


class UnknownGap(FallError):
    """There is no such gap, or no such list of gaps."""


class InvalidPrices(FallError):
    """What should be prices of all gaps are none."""


class InvalidWorths(FallError):
    """What should be old and new worths are none."""


class InvalidBarriers(FallError):
    """What should say where barriers are does not say it."""


class InvalidRules(FallError):
    """What should be rules of the plan are none."""


class InvalidHistory(FallError):
    """What should be a history is none."""


class TooMany(FallError):
    """There would be too many steps or pieces, or there are too many contents."""


class Arrived(FallError):
    """The piece came already."""


class TooEarly(FallError):
    """A piece of a lower epoch has not come."""


class NothingToUndo(FallError):
    """There is no call that can be undone."""


class InvalidName(FallError):
    """What should be a name is none."""


class DuplicateName(FallError):
    """The name is taken."""


class UnknownName(FallError):
    """There is no store with this name."""


class UnknownMark(FallError):
    """There is no mark with this label."""


class InvalidCommand(FallError):
    """What should be a command, or a list of them, is none."""


class InvalidLine(FallError):
    """What should be a line of the shell is none."""
