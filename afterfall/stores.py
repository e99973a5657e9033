"""Live stores: steps that are added, pieces that come, losses, and the undoing of all this."""

from afterfall.errors import Arrived, InvalidStep, NothingToUndo, TooEarly, TooMany, UnknownPiece
from afterfall.falls import behind_piece, check_pattern, ready_behind
from afterfall.finding import fall_behind
from afterfall.kinds import is_index
from afterfall.plans import Plan, is_room, is_step, piece_epochs


class State:
    """What runs, a plan or nothing, the pieces of it that came, and what the cells hold; it never changes.

    `ranks` has for each piece its epoch, with all barriers that count. Each method whose name begins
    with behind returns the state behind something that happens.
    """

    def __init__(self, active, ranks, arrived, held):
        self.active = active
        self.ranks = ranks
        self.arrived = arrived
        self.held = held

    def behind_arrival(self, piece):
        """Return the state behind a piece that comes."""
        if not is_index(piece, len(self.ranks)):
            raise UnknownPiece("no piece has this number")
        if piece in self.arrived:
            raise Arrived("the piece came already")
        if self.ranks[piece] != self.ranks[len(self.arrived)]:
            raise TooEarly("a piece of a lower epoch has not come")
        held = behind_piece(self.held, self.active.pieces[piece])
        return State(self.active, self.ranks, self.arrived + [piece], held)

    def behind_step(self, step):
        """Return the state behind a further step of the plan."""
        plan = self.active
        if not is_step(len(plan.base), step):
            raise InvalidStep("not a step for this store")
        steps = plan.steps + [step]
        if not is_room(plan.width, steps):
            raise TooMany("there would be too many steps or pieces")
        longer = Plan(plan.base, plan.width, steps)
        return State(longer, piece_epochs(longer), self.arrived, self.held)

    def behind_loss(self):
        """Return the state behind a fall: a plan without steps begins."""
        return begun(Plan(self.held, self.active.width, []))

    def next_pieces(self):
        """Return the ascending list of the pieces that can come next."""
        return ready_behind(self.ranks, self.arrived)

    def may_leave(self, pattern):
        """Return whether a pattern is found after a fall that begins with the pieces that came."""
        check_pattern(self.active, pattern)
        return fall_behind(self.active, pattern, ([], [], []), self.arrived) is not None


def begun(plan):
    """Return the state in which a plan runs and no piece of it came."""
    return State(plan, piece_epochs(plan), [], plan.base)


class Store:
    """A live store; the states ahead of its present one are kept to be restored."""

    def __init__(self, base, width):
        self._now = begun(Plan(base, width, []))
        self._earlier = []

    def _go_on(self, state):
        self._earlier.append(self._now)
        self._now = state

    def write(self, first, worths):
        """Add a write to the plan."""
        self._go_on(self._now.behind_step((first, worths)))

    def barrier(self):
        """Add a barrier to the plan."""
        self._go_on(self._now.behind_step(None))

    def arrive(self, piece):
        """Let a piece come."""
        self._go_on(self._now.behind_arrival(piece))

    def lose(self):
        """Lose all that has not come, and begin a new plan."""
        self._go_on(self._now.behind_loss())

    def undo(self):
        """Restore the state before the last call that is not undone yet."""
        if not self._earlier:
            raise NothingToUndo("there is no call that can be undone")
        self._now = self._earlier.pop()

    @property
    def plan(self):
        """The plan as it is now."""
        return self._now.active

    @property
    def came(self):
        """The list of the pieces that came, in order."""
        return list(self._now.arrived)

    @property
    def content(self):
        """What the cells hold."""
        return self._now.held

    @property
    def ready(self):
        """The ascending list of the pieces that can come next."""
        return ready_behind(self._now.ranks, self._now.arrived)

    def can_hold(self, pattern):
        """Return whether a pattern can be found after a fall that begins with the pieces that came."""
        return self._now.may_leave(pattern)

    def __len__(self):
        return len(self._earlier)

    def copy(self):
        """Return a store of its own in the same state, with the same earlier states."""
        other = Store(self._now.held, self._now.active.width)
        other._now = self._now
        other._earlier = list(self._earlier)
        return other
