"""Finding a fall after which a pattern is found, or a paper that there is none."""

from afterfall.claims import check_claims, claimed_there, is_in, later_pieces, mask_of, may_begin, misplaced_in
from afterfall.falls import check_pattern, last_epoch, overwritten
from afterfall.kinds import is_index, is_integer
from afterfall.plans import piece_epochs

BASE = -1


class Hunt:
    """What a search asks of a plan, a pattern and claims, for falls that begin with a fall.

    Cells and pieces are kept as masks. A piece touches the cells of the pattern that it writes,
    and spoils those of them into which it writes a worth that is not let.
    """

    def __init__(self, plan, pattern, claims, begun):
        _, gone, ahead = claims
        pieces = plan.pieces
        self.asked = mask_of(list(pattern))
        self.touched = [mask_of(_cells_of(piece, pattern)) for piece in pieces]
        self.spoiled = [mask_of(_spoiled_by(piece, pattern)) for piece in pieces]
        content = overwritten(plan, begun)
        self.spoiled_first = mask_of([cell for cell in pattern if content[cell] not in pattern[cell]])
        self.own_epochs = piece_epochs(plan)
        self.claimed = claimed_there(claims)
        self.later = later_pieces(plan, ahead)
        self.members = [[] for _ in range(plan.epochs)]
        for piece, epoch in enumerate(self.own_epochs):
            if piece not in gone and piece not in begun:
                self.members[epoch].append(piece)

    def is_sure(self, piece, epoch):
        """Return whether a piece surely came in a fall in an epoch that fits the claims."""
        return self.own_epochs[piece] < epoch or piece in self.claimed


def _cells_of(piece, pattern):
    """Return the cells of a pattern that a piece writes."""
    _, first, worths = piece
    return [cell for cell in range(first, first + len(worths)) if cell in pattern]


def _spoiled_by(piece, pattern):
    """Return the cells of a pattern into which a piece writes a worth that is not let."""
    _, first, worths = piece
    return [cell for cell in _cells_of(piece, pattern) if worths[cell - first] not in pattern[cell]]


def check_question(plan, pattern, claims):
    """Raise InvalidPattern or InvalidClaims unless the arguments are a pattern and claims of the plan."""
    check_pattern(plan, pattern)
    check_claims(plan, claims)


def find(plan, pattern, claims):
    """Return a fall that fits claims and after which a pattern is found, or None."""
    check_question(plan, pattern, claims)
    return fall_behind(plan, pattern, claims, [])


def fall_leaving(plan, pattern):
    """Return a fall after which a pattern is found, or None, for what is known to be a pattern."""
    return fall_behind(plan, pattern, ([], [], []), [])


def fall_behind(plan, pattern, claims, begun):
    """Return a fall as `find` does, that begins with a fall; the arguments are known to be right."""
    if not may_begin(claims, begun):
        return None
    hunt = Hunt(plan, pattern, claims, begun)
    for epoch in range(last_epoch(plan, begun), plan.epochs):
        # A fall in an epoch without pieces is one in the epoch ahead of it, too.
        if epoch > 0 and epoch not in hunt.own_epochs or misplaced_in(plan, claims, epoch) is not None:
            continue
        order, _ = _go_back(hunt, epoch)
        if order is not None:
            return begun + order
    return None


def _go_back(hunt, epoch):
    """Put the pieces of a fall in an epoch in from the last one on backwards.

    Return them in order and {}, or None and the spoils that make a stuck entry of a paper.
    """
    order, spoils, unsettled = [], {}, hunt.asked
    for now in reversed(range(epoch + 1)):
        placed, left, unsettled = _place(hunt, now, unsettled)
        order.extend(placed)
        for piece in left:
            if hunt.spoiled[piece] & unsettled:
                spoils[piece] = _least_in(hunt.spoiled[piece] & unsettled)
        if any([hunt.is_sure(piece, epoch) for piece in left]):
            return None, spoils
    if hunt.spoiled_first & unsettled:
        spoils[BASE] = _least_in(hunt.spoiled_first & unsettled)
        return None, spoils
    order.reverse()
    return order, {}


def _place(hunt, epoch, unsettled):
    """Put in as many pieces of an epoch as can be, each ahead of those that are in.

    Return them, those that are left, and the cells of the pattern that are still unsettled.
    """
    placed, left, many = [], hunt.members[epoch], -1
    waiting = mask_of(left)
    while len(placed) != many:
        many = len(placed)
        for piece in left:
            # By [7] a piece that spoils nothing can come last of those that are not in yet.
            if not hunt.spoiled[piece] & unsettled and not hunt.later[piece] & waiting:
                placed.append(piece)
                waiting &= ~(1 << piece)
                unsettled &= ~hunt.touched[piece]
        left = [piece for piece in left if is_in(piece, waiting)]
    return placed, left, unsettled


def _least_in(mask):
    """Return the least member of a mask that has one."""
    return (mask & -mask).bit_length() - 1


def shut(plan, pattern, claims):
    """Return a paper that no fall fits claims with a pattern found after it, or None."""
    check_question(plan, pattern, claims)
    if fall_behind(plan, pattern, claims, []) is not None:
        return None
    hunt = Hunt(plan, pattern, claims, [])
    return [_entry_of(plan, claims, hunt, epoch) for epoch in range(plan.epochs)]


def _entry_of(plan, claims, hunt, epoch):
    """Return the entry of a paper for an epoch."""
    misplaced = misplaced_in(plan, claims, epoch)
    if misplaced is not None:
        return misplaced
    _, spoils = _go_back(hunt, epoch)
    return ("stuck", {piece: spoils[piece] for piece in sorted(spoils)})


def is_shut(plan, pattern, claims, thing):
    """Return whether a thing is a paper that no fall fits claims with a pattern found after it."""
    check_question(plan, pattern, claims)
    if not isinstance(thing, list) or len(thing) != plan.epochs:
        return False
    hunt = Hunt(plan, pattern, claims, [])
    return all([_is_entry(hunt, claims[1], epoch, entry) for epoch, entry in enumerate(thing)])


def _is_entry(hunt, gone, epoch, thing):
    """Return whether a thing is an entry of a paper for an epoch."""
    if not isinstance(thing, tuple) or len(thing) != 2:
        return False
    word, told = thing
    if word == "stuck":
        return isinstance(told, dict) and _are_spoils(hunt, epoch, told)
    if not is_index(told, len(hunt.own_epochs)):
        return False
    if word == "there":
        return told in hunt.claimed and hunt.own_epochs[told] > epoch
    return word == "gone" and told in gone and hunt.own_epochs[told] < epoch


def _are_spoils(hunt, epoch, spoils):
    """Return whether a dict is that of a stuck entry for an epoch."""
    able = [piece for now in range(epoch + 1) for piece in hunt.members[now]]
    if not all([_is_spoil(hunt, able, piece, spoils[piece]) for piece in spoils]):
        return False
    sure = [piece for piece in spoils if piece != BASE and hunt.is_sure(piece, epoch)]
    if BASE not in spoils and not sure:
        return False
    # The pieces that can come behind all spoils: only those could write into a cell of theirs.
    free = [piece for piece in able if piece not in spoils and not _is_ahead(hunt, piece, sure)]
    return not any([_mends(hunt, other, piece, spoils[piece]) for piece in spoils for other in free])


def _is_spoil(hunt, able, piece, cell):
    """Return whether the base, or one of the pieces that are able to come, spoils a cell."""
    if not is_integer(piece) or not is_index(cell, hunt.asked.bit_length()):
        return False
    if piece == BASE:
        return is_in(cell, hunt.spoiled_first)
    return piece in able and is_in(cell, hunt.spoiled[piece])


def _is_ahead(hunt, piece, others):
    """Return whether a piece must come ahead of one of some others."""
    return any([is_in(other, hunt.later[piece]) for other in others])


def _mends(hunt, other, piece, cell):
    """Return whether another piece can come behind a piece, or the base, and write into a cell."""
    return is_in(cell, hunt.touched[other]) and (piece == BASE or not is_in(piece, hunt.later[other]))
