"""Live runs of a plan and of the restarts behind it, with barriers that are put in on the way."""

from afterfall.barriers import shutters_of
from afterfall.errors import FallError, NothingToUndo, UnknownGap
from afterfall.restarts import check_rules, placed_restart
from afterfall.safegaps import all_gaps, barred_at, gaps_at, is_one_of
from afterfall.stores import State, begun


class TooLate(FallError):
    """The gap shuts what happened already."""


class AtRest(FallError):
    """Nothing runs."""


class Moment:
    """All that is so in a run at one moment, but for the falls that ended; it never changes.

    `ended` is the number of these falls, `place` that of what runs, None at rest; `inserted` has the
    gaps with a barrier, `shutting` those that shut one of these falls.
    """

    def __init__(self, ended, place, state, inserted, shutting):
        self.ended = ended
        self.place = place
        self.state = state
        self.inserted = inserted
        self.shutting = shutting

    def shutting_now(self):
        """Return the list of the gaps that shut what runs, with the pieces of it that came."""
        if self.place is None:
            return []
        return [(self.place, gap) for gap in shutters_of(self.state.active, self.state.arrived)]


def _ranks_of(plan, inserted):
    """Return the epoch of each piece of a plan with barriers at some of its gaps."""
    ranks = []
    for number, piece in enumerate(plan.pieces):
        ranks.append(plan.epoch_of(number) + len([gap for gap in inserted if gap <= piece[0]]))
    return ranks


class Run:
    """A live run; the moments ahead of the present one are kept to be restored."""

    def __init__(self, plan, rules):
        check_rules(plan, rules)
        self._first, self._rules = barred_at(plan, rules, [])
        self._gaps = all_gaps(plan, rules)
        self._falls = []
        self._earlier = []
        self._now = Moment(0, 0, begun(self._first), [], [])

    def _go_on(self, moment):
        self._earlier.append(self._now)
        self._now = moment

    def arrive(self, piece):
        """Let a piece of what runs come."""
        now = self._now
        self._go_on(Moment(now.ended, now.place, now.state.behind_arrival(piece), now.inserted, now.shutting))

    def fall(self):
        """End what runs, and let the restart of the content run, or nothing if there is none."""
        now = self._now
        if now.place is None:
            raise AtRest("nothing runs")
        held, shutting = now.state.held, sorted(set(now.shutting + now.shutting_now()))
        place, active = placed_restart(self._first, self._rules, held)
        ranks = [] if active is None else _ranks_of(active, gaps_at(place, now.inserted))
        self._falls.append(now.state.arrived)
        self._go_on(Moment(now.ended + 1, place, State(active, ranks, [], held), now.inserted, shutting))

    def put_in(self, gap):
        """Put a barrier in at a gap."""
        now = self._now
        if not is_one_of(self._gaps, gap) or gap in now.inserted:
            raise UnknownGap("no gap of the plan with these rules, or one with a barrier")
        if gap in now.shutting or gap in now.shutting_now():
            raise TooLate("the gap shuts what happened already")
        self._bar(sorted(now.inserted + [gap]))

    def take_out(self, gap):
        """Take a barrier that was put in out again."""
        inserted = self._now.inserted
        if not is_one_of(inserted, gap):
            raise UnknownGap("no gap at which a barrier was put in")
        self._bar([other for other in inserted if other != gap])

    def _bar(self, inserted):
        """Go on with barriers at just these gaps."""
        now, state = self._now, self._now.state
        if now.place is not None:
            ranks = _ranks_of(state.active, gaps_at(now.place, inserted))
            state = State(state.active, ranks, state.arrived, state.held)
        self._go_on(Moment(now.ended, now.place, state, inserted, now.shutting))

    def undo(self):
        """Restore the moment before the last call that is not undone yet."""
        if not self._earlier:
            raise NothingToUndo("there is no call that can be undone")
        self._now = self._earlier.pop()
        del self._falls[self._now.ended:]

    @property
    def history(self):
        """The list of the falls that ended."""
        return [list(fall) for fall in self._falls]

    @property
    def came(self):
        """The list of the pieces of what runs that came, in order."""
        return list(self._now.state.arrived)

    @property
    def content(self):
        """What the cells hold."""
        return self._now.state.held

    @property
    def rule(self):
        """The index of the rule whose restart runs, -1 if the plan runs, None at rest."""
        return None if self._now.place is None else self._now.place - 1

    @property
    def barriers(self):
        """The ascending list of the gaps at which barriers were put in."""
        return list(self._now.inserted)

    def __len__(self):
        return len(self._earlier)

    def copy(self):
        """Return a run of its own in the same state, with the same earlier states."""
        other = Run(self._first, self._rules)
        other._now = self._now
        other._earlier = list(self._earlier)
        other._falls = list(self._falls)
        return other
