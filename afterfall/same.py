"""Whether two plans can leave the same contents."""

from afterfall.cells import BITS, code_of, decoded
from afterfall.errors import Mismatch


def only(plan, other):
    """Return the least content that can be found after a plan and not after another one, or None."""
    _check_cells(plan, other)
    found, known = _codes_left_by(plan), _codes_left_by(other)
    least = min([code for code in found if code not in known], default=None)
    return None if least is None else decoded(len(plan.base), least)


def leave_the_same(plan, other):
    """Return whether two plans can leave the same contents."""
    _check_cells(plan, other)
    return _codes_left_by(plan) == _codes_left_by(other)


def _check_cells(plan, other):
    if len(plan.base) != len(other.base):
        raise Mismatch("the plans do not have as many cells")


def _codes_left_by(plan):
    """Return, as keys, the codes of all that falls of a plan can leave."""
    found, _ = left_from(code_of(plan.base), overlays_of(plan), None)
    return found


def left_by(plan, most=None):
    """Return the list of what falls of a plan can leave, and that of what those with all pieces can leave.

    If there are more contents than a number, then more than so many, but perhaps not all of them, are returned.
    """
    found, whole = left_from(code_of(plan.base), overlays_of(plan), most)
    cells = len(plan.base)
    return [decoded(cells, code) for code in found], [decoded(cells, code) for code in whole]


def overlays_of(plan):
    """Return for each epoch the list of its pieces, each as the bits of a code that it keeps and those that it puts."""
    overlays = [[] for _ in range(plan.epochs)]
    for number, piece in enumerate(plan.pieces):
        overlays[plan.epoch_of(number)].append(_overlay_of(len(plan.base), piece))
    return overlays


def _overlay_of(cells, piece):
    _, first, worths = piece
    behind = BITS * (cells - first - len(worths))
    every, written = (1 << BITS * cells) - 1, (1 << BITS * len(worths)) - 1
    return (every ^ written << behind, code_of(worths) << behind)


def left_from(code, overlays, most):
    """Return, as the keys of two dicts, the codes of what is left as `left_by` says, for a base with a code."""
    found, whole = {}, {code: True}
    for pieces in overlays:
        found.update(_spread(whole, pieces, most))
        if most is not None and len(found) > most:
            break
        # Behind all pieces in any one order, to let them come again leads to all the other orders.
        whole = _spread([_put_in_order(start, pieces) for start in whole], pieces, most)
    return found, whole


def _put_in_order(code, pieces):
    """Return what a code becomes by pieces in order."""
    for kept, put in pieces:
        code = code & kept | put
    return code


def _spread(starts, pieces, most):
    """Return, as keys, what pieces, in any order, each perhaps not at all, can make of some codes."""
    reached = {code: True for code in starts}
    waiting = list(reached)
    while waiting and (most is None or len(reached) <= most):
        code = waiting.pop()
        # Only the last time that a piece comes counts, so a piece may come again and none is kept in mind.
        for kept, put in pieces:
            made = code & kept | put
            if made not in reached:
                reached[made] = True
                waiting.append(made)
    return reached
