"""The cells of a store: contents, and patterns of them."""

from afterfall.errors import InvalidContent, InvalidPattern
from afterfall.kinds import is_ascending, is_index

MOST_CELLS = 24
ALL_WORTHS = (0, 1, 2, 3, 4, 5, 6, 7)
BITS = 3


def are_worths(thing):
    """Return whether a thing is a tuple of one or more worths."""
    if not isinstance(thing, tuple) or not thing:
        return False
    return all([is_index(part, len(ALL_WORTHS)) for part in thing])


def is_content(thing):
    """Return whether a thing is a content."""
    return are_worths(thing) and len(thing) <= MOST_CELLS


def is_pattern(cells, thing):
    """Return whether a thing is a pattern for a number of cells."""
    if not isinstance(thing, dict):
        return False
    return all([is_index(cell, cells) and are_let(thing[cell]) for cell in thing])


def are_let(thing):
    """Return whether a thing can be the worths that a pattern lets a cell hold."""
    return are_worths(thing) and is_ascending(thing)


def matches(pattern, content):
    """Return whether a content matches a pattern."""
    if not is_content(content):
        raise InvalidContent("not a content")
    if not is_pattern(len(content), pattern):
        raise InvalidPattern("not a pattern for the cells of this content")
    return agrees(pattern, content)


def agrees(pattern, content):
    """Return the same as `matches`, for what is known to be a pattern and a content."""
    return all([content[cell] in pattern[cell] for cell in pattern])


def both(cells, pattern, other):
    """Return the pattern of what matches both patterns, or None if nothing does."""
    if not is_pattern(cells, pattern) or not is_pattern(cells, other):
        raise InvalidPattern("not a pattern for this number of cells")
    met = {}
    for cell in range(cells):
        if cell in pattern or cell in other:
            met[cell] = _in_both(pattern.get(cell, ALL_WORTHS), other.get(cell, ALL_WORTHS))
    if () in list(met.values()):
        return None
    return met


def _in_both(worths, others):
    return tuple([worth for worth in worths if worth in others])


def code_of(content):
    """Return the integer whose groups of three bits are the worths of a content; codes ascend as contents do."""
    code = 0
    for worth in content:
        code = code << BITS | worth
    return code


def decoded(cells, code):
    """Return the content of a number of cells that has a code."""
    return tuple([code >> BITS * behind & ALL_WORTHS[-1] for behind in reversed(range(cells))])
