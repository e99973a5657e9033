"""Texts of plans."""

from afterfall.cells import is_content
from afterfall.errors import ParseError
from afterfall.plans import Plan, is_room, is_step, is_width

FIGURES = "0123456789"
MOST_FIGURES = 2


def format_plan(plan):
    """Return the text of a plan."""
    lines = [f"plan {plan.width}", _line_of("base", plan.base)]
    for step in plan.steps:
        if step is None:
            lines.append("barrier")
        else:
            first, worths = step
            lines.append(_line_of("write", (first, *worths)))
    return "\n".join(lines)


def _line_of(word, numbers):
    return " ".join([word] + [str(number) for number in numbers])


def parse_plan(text):
    """Return the plan with a text."""
    if not isinstance(text, str):
        raise ParseError(0)
    lines = text.split("\n")
    width = _width_in(lines[0])
    if not is_width(width):
        raise ParseError(0)
    if len(lines) == 1:
        raise ParseError(1)
    base = tuple(_numbers_behind("base", lines[1]))
    if not is_content(base):
        raise ParseError(1)
    return Plan(base, width, _steps_in(lines, width, len(base)))


def _steps_in(lines, width, cells):
    """Return the steps that stand in lines behind the first two."""
    steps = []
    for at in range(2, len(lines)):
        step = _step_in(lines[at])
        if not is_step(cells, step) or not is_room(width, steps + [step]):
            raise ParseError(at)
        steps.append(step)
    return steps


def _width_in(line):
    """Return the width in a line, or -1 if it has not exactly one number."""
    numbers = _numbers_behind("plan", line)
    return numbers[0] if len(numbers) == 1 else -1


def _step_in(line):
    """Return the step in a line, or something that is no step."""
    if line == "barrier":
        return None
    numbers = _numbers_behind("write", line)
    return (numbers[0], tuple(numbers[1:])) if numbers else ()


def _numbers_behind(word, line):
    """Return the numbers of a line that begins with a word, [] if it is another one."""
    words = line.split(" ")
    return [number_in(other) for other in words[1:]] if words[0] == word else []


def number_in(word):
    """Return the integer from 0 to 99 that a word is, without leading zeros, or -1 if it is none."""
    # No number of a text is larger, and Python refuses to read some thousands of figures.
    if not word or len(word) > MOST_FIGURES or not all([sign in FIGURES for sign in word]):
        return -1
    if word[0] == "0" and word != "0":
        return -1
    return int(word)
