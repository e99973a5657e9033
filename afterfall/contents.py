"""The contents that can be found after a plan, in ascending order."""

from afterfall.cells import both, is_content
from afterfall.errors import InvalidContent, InvalidNumber
from afterfall.falls import check_pattern, overwritten
from afterfall.finding import fall_leaving
from afterfall.kinds import is_index

MOST_LISTED = 99


def is_content_for(plan, thing):
    """Return whether a thing is a content for the cells of a plan."""
    return is_content(thing) and len(thing) == len(plan.base)


def check_content(plan, content):
    """Raise InvalidContent unless this is a content for the cells of the plan."""
    if not is_content_for(plan, content):
        raise InvalidContent("not a content for the cells of the plan")


def next_content(plan, pattern, content):
    """Return the least content greater than one, or than none, that matches a pattern and can be found, or None."""
    check_pattern(plan, pattern)
    if content is not None:
        check_content(plan, content)
    return _next_behind(plan, pattern, content)


def contents(plan, pattern, most):
    """Return the ascending list of the first contents that match a pattern and can be found, at most a number."""
    check_pattern(plan, pattern)
    if not is_index(most, MOST_LISTED + 1):
        raise InvalidNumber("not an integer from 0 to 99")
    listed = []
    while len(listed) < most:
        content = _next_behind(plan, pattern, listed[-1] if listed else None)
        if content is None:
            break
        listed.append(content)
    return listed


def _next_behind(plan, pattern, content):
    """Return the same as `next_content`, for arguments that are known to be right."""
    able = both(len(plan.base), pattern, _written(plan))
    if able is None:
        return None
    if content is None:
        return _least(plan, able)
    # The least one shares as many of its first cells with the content as any greater one can.
    for cell in reversed(range(len(content))):
        asked = _greater_at(able, content, cell)
        found = None if asked is None else _least(plan, asked)
        if found is not None:
            return found
    return None


def _written(plan):
    """Return the pattern that lets each cell hold its worth in the base and those that are written into it."""
    worths = {cell: [worth] for cell, worth in enumerate(plan.base)}
    for _, first, written in plan.pieces:
        for at, worth in enumerate(written):
            worths[first + at].append(worth)
    return {cell: tuple(sorted(set(worths[cell]))) for cell in worths}


def _greater_at(able, content, cell):
    """Return the pattern of what is equal to a content ahead of a cell and greater at it, or None."""
    greater = tuple([worth for worth in able[cell] if worth > content[cell]])
    if not greater or any([content[at] not in able[at] for at in range(cell)]):
        return None
    asked = {at: (content[at],) for at in range(cell)}
    return {**able, **asked, cell: greater}


def _least(plan, able):
    """Return the least content that matches a pattern of all cells and can be found, or None."""
    fall = fall_leaving(plan, able)
    if fall is None:
        return None
    content, asked = overwritten(plan, fall), able
    for cell in able:
        content = _lowered(plan, asked, content, cell)
        asked = {**asked, cell: (content[cell],)}
    return content


def _lowered(plan, asked, content, cell):
    """Return a content that matches a pattern, can be found, and has the least worth that a cell can hold in such."""
    while True:
        lower = tuple([worth for worth in asked[cell] if worth < content[cell]])
        fall = fall_leaving(plan, {**asked, cell: lower}) if lower else None
        if fall is None:
            return content
        content = overwritten(plan, fall)
