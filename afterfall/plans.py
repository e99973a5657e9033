"""Plans of writes, with barriers between them."""

from afterfall.cells import MOST_CELLS, are_worths, is_content
from afterfall.errors import InvalidPlan, InvalidStep, UnknownPiece, UnknownStep
from afterfall.kinds import is_index, is_integer

MOST_STEPS = 40
MOST_PIECES = 40


def is_width(thing):
    """Return whether a thing is a width."""
    return is_integer(thing) and 1 <= thing <= MOST_CELLS


def is_step(cells, thing):
    """Return whether a thing is a step, a barrier or a write, for a store with a number of cells."""
    if thing is None:
        return True
    if not isinstance(thing, tuple) or len(thing) != 2:
        return False
    first, worths = thing
    return is_index(first, cells) and are_worths(worths) and first + len(worths) <= cells


def is_room(width, steps):
    """Return whether neither these steps nor their pieces are too many for a plan."""
    return len(steps) <= MOST_STEPS and len(_pieces_of(width, steps)) <= MOST_PIECES


def _pieces_of(width, steps):
    """Return the pieces of all steps, in order."""
    pieces = []
    for index, step in enumerate(steps):
        if step is not None:
            pieces.extend(_broken(width, index, step))
    return pieces


def _broken(width, index, write):
    """Return the pieces that a write, the step with an index, is broken into."""
    first, worths = write
    behind = first + len(worths)
    cuts = [cell for cell in range(first + 1, behind) if cell % width == 0]
    starts, ends = [first] + cuts, cuts + [behind]
    return [(index, start, worths[start - first:end - first]) for start, end in zip(starts, ends)]


def _epochs_of(steps):
    """Return the epoch of each step."""
    epochs, barriers = [], 0
    for step in steps:
        epochs.append(barriers)
        if step is None:
            barriers += 1
    return epochs


def are_steps(cells, width, thing):
    """Return whether a thing is a list of the steps of a plan with a number of cells and a width."""
    if not isinstance(thing, list) or not all([is_step(cells, step) for step in thing]):
        return False
    return is_room(width, thing)


class Plan:
    """A base, a width and steps; it never changes."""

    def __init__(self, base, width, steps):
        if not is_content(base) or not is_width(width) or not are_steps(len(base), width, steps):
            raise InvalidPlan("not the base, the width and the steps of a plan, or too many steps or pieces")
        epochs = _epochs_of(steps)
        self._base = base
        self._width = width
        self._steps = list(steps)
        self._pieces = _pieces_of(width, steps)
        self._piece_epochs = [epochs[piece[0]] for piece in self._pieces]
        self._epochs = steps.count(None) + 1

    @property
    def base(self):
        """The content at the beginning."""
        return self._base

    @property
    def width(self):
        """The width by which writes are broken into pieces."""
        return self._width

    @property
    def steps(self):
        """The list of the steps."""
        return list(self._steps)

    @property
    def pieces(self):
        """The list of the pieces, tuples of step, first cell and worths."""
        return list(self._pieces)

    @property
    def epochs(self):
        """The number of epochs."""
        return self._epochs

    def epoch_of(self, piece):
        """Return the epoch of a piece."""
        if not is_index(piece, len(self._pieces)):
            raise UnknownPiece("no piece has this number")
        return self._piece_epochs[piece]

    def with_step(self, index, step):
        """Return the plan with a step more, ahead of the one with an index or behind all."""
        if not is_index(index, len(self._steps) + 1):
            raise UnknownStep("no step has this index, and it is not their number")
        if not is_step(len(self._base), step):
            raise InvalidStep("not a step for this store")
        return Plan(self._base, self._width, self._steps[:index] + [step] + self._steps[index:])

    def without_step(self, index):
        """Return the plan without a step."""
        if not is_index(index, len(self._steps)):
            raise UnknownStep("no step has this index")
        return Plan(self._base, self._width, self._steps[:index] + self._steps[index + 1:])

    def __eq__(self, other):
        return (isinstance(other, Plan) and self._base == other._base
                and self._width == other._width and self._steps == other._steps)


def piece_epochs(plan):
    """Return the list of the epochs of all pieces."""
    return [plan.epoch_of(piece) for piece in range(len(plan.pieces))]
