"""Claims: which pieces came, which did not, and which came ahead of others."""

from afterfall.errors import InvalidClaims, UnknownEpoch, UnknownPiece
from afterfall.falls import check_fall
from afterfall.kinds import is_ascending, is_index
from afterfall.plans import piece_epochs


def is_claims(plan, thing):
    """Return whether a thing is a tuple of claims of a plan that are not in contradiction."""
    if not isinstance(thing, tuple) or len(thing) != 3:
        return False
    there, gone, ahead = thing
    many = len(plan.pieces)
    if not _are_pieces(many, there) or not _are_pieces(many, gone) or not _are_pairs(many, ahead):
        return False
    claimed = claimed_there(thing)
    if any([piece in claimed for piece in gone]):
        return False
    later = later_pieces(plan, ahead)
    return not any([is_in(piece, later[piece]) for piece in range(many)])


def _are_pieces(many, thing):
    """Return whether a thing is an ascending list of different ones of many pieces."""
    if not isinstance(thing, list):
        return False
    return all([is_index(piece, many) for piece in thing]) and is_ascending(thing)


def _are_pairs(many, thing):
    """Return whether a thing is an ascending list of different tuples of two of many pieces."""
    if not isinstance(thing, list):
        return False
    return all([_is_pair(many, pair) for pair in thing]) and is_ascending(thing)


def _is_pair(many, thing):
    if not isinstance(thing, tuple) or len(thing) != 2:
        return False
    piece, other = thing
    return is_index(piece, many) and is_index(other, many) and piece != other


def claimed_there(claims):
    """Return the ascending list of the pieces that are claimed there, those of ahead among them."""
    there, _, ahead = claims
    return sorted(set(there + [piece for pair in ahead for piece in pair]))


def mask_of(members):
    """Return the mask of different members: the integer with the bit 1 << member for each of them."""
    return sum([1 << member for member in members])


def is_in(member, mask):
    """Return whether a mask has a member."""
    return mask >> member & 1 == 1


def later_pieces(plan, ahead):
    """Return for each piece the mask of those that it must come ahead of, with these tuples."""
    epochs = piece_epochs(plan)
    higher = [mask_of([piece for piece, at in enumerate(epochs) if at > epoch]) for epoch in range(plan.epochs)]
    later = [higher[epoch] for epoch in epochs]
    if not ahead:
        # By their epochs alone a chain of steps leads nowhere where no single step leads.
        return later
    for piece, other in ahead:
        later[piece] |= 1 << other
    for middle in range(len(later)):
        later = [mask | later[middle] if is_in(middle, mask) else mask for mask in later]
    return later


def check_claims(plan, claims):
    """Raise InvalidClaims unless these are claims of the plan."""
    if not is_claims(plan, claims):
        raise InvalidClaims("not claims of the plan, or in contradiction")


def fits(plan, claims, fall):
    """Return whether a fall fits claims."""
    check_claims(plan, claims)
    check_fall(plan, fall)
    return is_fitting(claims, fall)


def is_fitting(claims, fall):
    """Return the same as `fits`, for what is known to be claims and a fall."""
    return all([piece in fall for piece in claimed_there(claims)]) and may_begin(claims, fall)


def may_begin(claims, fall):
    """Return whether the claims let a fall begin with this one, as far as its own pieces go."""
    _, gone, ahead = claims
    if any([piece in fall for piece in gone]):
        return False
    return not any([other in fall and piece not in fall[:fall.index(other)] for piece, other in ahead])


def must_ahead(plan, claims, piece, other):
    """Return whether a piece must come ahead of another one."""
    check_claims(plan, claims)
    many = len(plan.pieces)
    if not is_index(piece, many) or not is_index(other, many):
        raise UnknownPiece("no piece has this number")
    return is_in(other, later_pieces(plan, claims[2])[piece])


def sure_in(plan, claims, epoch):
    """Return the list of the pieces that came in every fall in an epoch that fits claims, or None."""
    check_claims(plan, claims)
    if not is_index(epoch, plan.epochs):
        raise UnknownEpoch("no epoch has this number")
    if misplaced_in(plan, claims, epoch) is not None:
        return None
    claimed = claimed_there(claims)
    return [piece for piece, at in enumerate(piece_epochs(plan)) if at < epoch or piece in claimed]


def misplaced_in(plan, claims, epoch):
    """Return why claims let no fall be in an epoch, as an entry of a paper ([13]), or None."""
    for piece in claimed_there(claims):
        if plan.epoch_of(piece) > epoch:
            return ("there", piece)
    for piece in claims[1]:
        if plan.epoch_of(piece) < epoch:
            return ("gone", piece)
    return None
