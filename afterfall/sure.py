"""What is sure where a pattern can be found with claims."""

from afterfall.cells import agrees
from afterfall.claims import claimed_there, is_fitting, is_in, later_pieces
from afterfall.errors import Shut
from afterfall.falls import overwritten, ready_behind
from afterfall.finding import check_question, fall_behind
from afterfall.plans import piece_epochs


def surely_came(plan, pattern, claims):
    """Return the ascending list of the pieces that are in every fall after which the pattern is found."""
    return _in_all(plan, pattern, claims, _any_fall(plan, pattern, claims))


def _any_fall(plan, pattern, claims):
    """Return a fall that fits claims and after which a pattern is found, or raise Shut."""
    check_question(plan, pattern, claims)
    fall = fall_behind(plan, pattern, claims, [])
    if fall is None:
        raise Shut("after no fall that fits the claims the pattern is found")
    return fall


def _in_all(plan, pattern, claims, fall):
    """Return the pieces that are in every such fall, of which one is known."""
    there, gone, ahead = claims
    claimed, kept = claimed_there(claims), sorted(fall)
    for piece in sorted(fall):
        if piece in kept and piece not in claimed:
            without = fall_behind(plan, pattern, (there, gone + [piece], ahead), [])
            if without is not None:
                kept = [other for other in kept if other in without]
    return kept


def surely_lost(plan, pattern, claims):
    """Return the ascending list of the pieces that are in no fall after which the pattern is found."""
    fall = _any_fall(plan, pattern, claims)
    there, gone, ahead = claims
    lost = [piece for piece in range(len(plan.pieces)) if piece not in fall]
    for piece in list(lost):
        if piece in lost and piece not in gone:
            having = fall_behind(plan, pattern, (there + [piece], gone, ahead), [])
            if having is not None:
                lost = [other for other in lost if other not in having]
    return lost


def surely_ahead(plan, pattern, claims):
    """Return the ascending list of the tuples of pieces that surely came, and in this order."""
    fall = _any_fall(plan, pattern, claims)
    there, gone, ahead = claims
    later = later_pieces(plan, ahead)
    sure = _in_all(plan, pattern, claims, fall)
    kept = [(piece, other) for piece in sure for other in sure if _stand_so(fall, piece, other)]
    for piece, other in list(kept):
        if (piece, other) in kept and not is_in(other, later[piece]):
            turned = fall_behind(plan, pattern, (there, gone, ahead + [(other, piece)]), [])
            if turned is not None:
                kept = [pair for pair in kept if _stand_so(turned, *pair)]
    return kept


def _stand_so(fall, piece, other):
    """Return whether a piece stands ahead of another one in a fall that has both."""
    return fall.index(piece) < fall.index(other)


def first_fall(plan, pattern, claims):
    """Return the first, in ascending order, of the falls after which the pattern is found."""
    _any_fall(plan, pattern, claims)
    begun = []
    while not is_fitting(claims, begun) or not agrees(pattern, overwritten(plan, begun)):
        begun = begun + [_first_next(plan, pattern, claims, begun)]
    return begun


def _first_next(plan, pattern, claims, begun):
    """Return the least piece that can come next and behind which the pattern can be found."""
    able = ready_behind(piece_epochs(plan), begun)
    for piece in able[:-1]:
        if fall_behind(plan, pattern, claims, begun + [piece]) is not None:
            return piece
    return able[-1]
