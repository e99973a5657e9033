"""Whether two plans can leave the same contents."""

from afterfall.errors import Mismatch


def only(plan, other):
    """Return the least content that can be found after a plan and not after another one, or None."""
    _check_cells(plan, other)
    found, _ = left_by(plan)
    known, _ = left_by(other)
    return min([content for content in found if content not in known], default=None)


def leave_the_same(plan, other):
    """Return whether two plans can leave the same contents."""
    _check_cells(plan, other)
    found, _ = left_by(plan)
    known, _ = left_by(other)
    return found == known


def _check_cells(plan, other):
    if len(plan.base) != len(other.base):
        raise Mismatch("the plans do not have as many cells")


def left_by(plan, most=None):
    """Return what falls of a plan can leave, and what those with all pieces can leave.

    Both are dicts whose keys are the contents. If there are more contents than a number, then
    more than so many, but perhaps not all of them, are returned.
    """
    found, whole = {}, {plan.base: True}
    for pieces in _members_of(plan):
        reached = _spread(whole, pieces, most)
        for content in reached:
            found[content] = True
        if most is not None and len(found) > most:
            break
        # Behind all pieces in any one order, to let them come again leads to all the other orders.
        whole = _spread([_overwritten_by(content, pieces) for content in whole], pieces, most)
    return found, whole


def _members_of(plan):
    """Return the list of the pieces of each epoch."""
    members = [[] for _ in range(plan.epochs)]
    for number, piece in enumerate(plan.pieces):
        members[plan.epoch_of(number)].append(piece)
    return members


def _overwritten_by(content, pieces):
    """Return a content, overwritten by pieces in order."""
    for _, first, worths in pieces:
        content = content[:first] + worths + content[first + len(worths):]
    return content


def _spread(starts, pieces, most):
    """Return, as keys, what pieces, in any order, each perhaps not at all, can make of some contents."""
    reached = {content: True for content in starts}
    waiting = list(reached)
    while waiting and (most is None or len(reached) <= most):
        content = waiting.pop()
        # Only the last time that a piece comes counts, so a piece may come again and none is kept in mind.
        for piece in pieces:
            made = _overwritten_by(content, [piece])
            if made not in reached:
                reached[made] = True
                waiting.append(made)
    return reached
