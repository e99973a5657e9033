"""Falls: the pieces that came, in the order in which they came."""

from afterfall.cells import agrees, is_pattern
from afterfall.errors import InvalidFall, InvalidPattern
from afterfall.kinds import is_index
from afterfall.plans import piece_epochs


def is_fall(plan, thing):
    """Return whether a thing is a fall of a plan."""
    epochs = piece_epochs(plan)
    if not isinstance(thing, list) or not all([is_index(piece, len(epochs)) for piece in thing]):
        return False
    if len(set(thing)) < len(thing):
        return False
    # All of the lower epochs stand ahead just if the epochs come in the order of the pieces.
    return [epochs[piece] for piece in thing] == epochs[:len(thing)]


def content_after(plan, fall):
    """Return what is found after a fall."""
    check_fall(plan, fall)
    return overwritten(plan, fall)


def epoch_in(plan, fall):
    """Return the least epoch that a fall is in."""
    check_fall(plan, fall)
    return last_epoch(plan, fall)


def is_found(plan, fall, pattern):
    """Return whether what is found after a fall matches a pattern."""
    check_fall(plan, fall)
    check_pattern(plan, pattern)
    return agrees(pattern, overwritten(plan, fall))


def check_fall(plan, fall):
    """Raise InvalidFall unless this is a fall of the plan."""
    if not is_fall(plan, fall):
        raise InvalidFall("not a fall of the plan")


def check_pattern(plan, pattern):
    """Raise InvalidPattern unless this is a pattern for the cells of the plan."""
    if not is_pattern(len(plan.base), pattern):
        raise InvalidPattern("not a pattern for the cells of the plan")


def overwritten(plan, fall):
    """Return the same as `content_after`, for what is known to be a fall."""
    content, pieces = plan.base, plan.pieces
    for piece in fall:
        content = behind_piece(content, pieces[piece])
    return content


def behind_piece(content, piece):
    """Return a content, overwritten by a piece."""
    _, first, worths = piece
    return content[:first] + worths + content[first + len(worths):]


def last_epoch(plan, fall):
    """Return the same as `epoch_in`, for what is known to be a fall."""
    return plan.epoch_of(fall[-1]) if fall else 0


def ready_behind(epochs, fall):
    """Return the ascending list of the pieces that can come next behind a fall, with the epochs of all pieces."""
    if len(fall) == len(epochs):
        return []
    return [piece for piece, epoch in enumerate(epochs) if epoch == epochs[len(fall)] and piece not in fall]
