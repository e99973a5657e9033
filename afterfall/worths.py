"""The worths that cells can hold where a pattern can be found with claims."""

from afterfall.cells import ALL_WORTHS
from afterfall.errors import UnknownCell
from afterfall.finding import check_question, fall_behind
from afterfall.kinds import is_index

MOST_TOGETHER = 3


def worths_of(plan, pattern, claims, cell):
    """Return the ascending list of the worths of a cell that can be found with a pattern and claims."""
    check_question(plan, pattern, claims)
    if not is_index(cell, len(plan.base)):
        raise UnknownCell("no cell has this number")
    return [row[0] for row in _rows_of(plan, pattern, claims, [cell])]


def together(plan, pattern, claims, cells):
    """Return the ascending list of the tuples of worths that cells can have at the same time."""
    check_question(plan, pattern, claims)
    if not _are_cells(len(plan.base), cells):
        raise UnknownCell("not a list of one to three different cells")
    return _rows_of(plan, pattern, claims, cells)


def _are_cells(many, thing):
    """Return whether a thing is a list of one to three different ones of many cells."""
    if not isinstance(thing, list) or not 1 <= len(thing) <= MOST_TOGETHER:
        return False
    return all([is_index(cell, many) for cell in thing]) and len(set(thing)) == len(thing)


def _rows_of(plan, pattern, claims, cells):
    """Return the ascending list of the tuples of worths that cells can have at the same time."""
    rows = [()]
    for many in range(1, len(cells) + 1):
        longer = [row + (worth,) for row in rows for worth in ALL_WORTHS]
        rows = [row for row in longer if _can_hold(plan, pattern, claims, dict(zip(cells[:many], row)))]
    return rows


def _can_hold(plan, pattern, claims, held):
    """Return whether cells can hold a worth each, together with a pattern and claims."""
    if any([held[cell] not in pattern.get(cell, ALL_WORTHS) for cell in held]):
        return False
    asked = dict(pattern)
    for cell in held:
        asked[cell] = (held[cell],)
    return fall_behind(plan, asked, claims, []) is not None
