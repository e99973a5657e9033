"""Barriers at gaps between writes, and the cheapest ones that shut out what must not be found."""

from heapq import heappop, heappush

from afterfall.errors import Always, InvalidPrices, UnknownGap
from afterfall.falls import check_fall
from afterfall.finding import fall_leaving
from afterfall.guards import check_guards, harm_to
from afterfall.kinds import is_integer
from afterfall.plans import Plan

MOST_PRICE = 999


def gaps(plan):
    """Return the ascending list of the writes, by their steps, that have a write ahead of them."""
    return gaps_among(plan.steps)


def gaps_among(steps):
    """Return the ascending list of the writes among steps, by their indexes, that have a write ahead of them."""
    return [gap for gap in range(1, len(steps)) if steps[gap - 1] is not None and steps[gap] is not None]


def with_barriers(plan, chosen):
    """Return the plan with a barrier at each of some gaps."""
    if not _are_gaps(plan, chosen):
        raise UnknownGap("not a list of different gaps of the plan")
    return _barred(plan, chosen)


def _are_gaps(plan, thing):
    """Return whether a thing is a list of different gaps of a plan."""
    if not isinstance(thing, list):
        return False
    able = gaps(plan)
    return all([is_integer(gap) and gap in able for gap in thing]) and len(set(thing)) == len(thing)


def _barred(plan, chosen):
    """Return the same as `with_barriers`, for what are known to be gaps."""
    return Plan(plan.base, plan.width, steps_barred(plan.steps, chosen))


def steps_barred(steps, chosen):
    """Return the list of steps with a barrier ahead of each of those with some indexes."""
    barred = []
    for index, step in enumerate(steps):
        if index in chosen:
            barred.append(None)
        barred.append(step)
    return barred


def shutters(plan, fall):
    """Return the ascending list of the gaps that shut a fall."""
    check_fall(plan, fall)
    return shutters_of(plan, fall)


def shutters_of(plan, fall):
    """Return the same as `shutters`, for what is known to be a fall."""
    pieces = plan.pieces
    return [gap for gap in gaps(plan) if _is_shut_by(pieces, fall, gap)]


def _is_shut_by(pieces, fall, gap):
    """Return whether a gap shuts a fall."""
    ahead = len([piece for piece in pieces if piece[0] < gap])
    # The pieces ahead of the gap have the first numbers, and should have the first places, too.
    return any([piece >= ahead for piece in fall[:ahead]])


def check_prices(plan, prices):
    """Raise InvalidPrices unless these are prices of all gaps of the plan."""
    if not _are_prices(plan, prices):
        raise InvalidPrices("not a dict from all gaps of the plan to integers from 1 to 999")


def _are_prices(plan, thing):
    if not isinstance(thing, dict) or not all([is_integer(gap) for gap in thing]):
        return False
    if sorted(thing) != gaps(plan):
        return False
    return all([is_price(thing[gap]) for gap in thing])


def is_price(thing):
    """Return whether a thing is a price."""
    return is_integer(thing) and 1 <= thing <= MOST_PRICE


class Harms:
    """The falls of a plan after which guards are found, as far as they were asked for, with their shutters."""

    def __init__(self, bare, guards):
        self.bare = bare
        self.guards = guards
        self.known = []

    def left_with(self, chosen):
        """Return a tuple (shutters, guard, fall) of a fall that barriers at some gaps leave, or None."""
        past = [entry for entry in self.known if not any([gap in chosen for gap in entry[0]])]
        if past:
            return min(past, key=lambda entry: len(entry[0]))
        entry = self.asked(chosen)
        if entry is not None:
            self.known.append(entry)
        return entry

    def asked(self, chosen):
        """Return the same as `left_with`, for a fall that is looked for anew."""
        harm = harm_to(_barred(self.bare, chosen), self.guards)
        if harm is None:
            return None
        guard, fall = harm
        for gap in gaps(self.bare):
            # The fewer gaps shut a fall, the more it tells of the barriers that are needed.
            other = fall
            if _is_shut_by(self.bare.pieces, fall, gap):
                other = fall_leaving(_barred(self.bare, chosen + [gap]), self.guards[guard])
            if other is not None:
                chosen, fall = chosen + [gap], other
        return (shutters_of(self.bare, fall), guard, fall)


def cheapest(plan, guards, prices):
    """Return a tuple of the least price of barriers with which no guard can be found, and their gaps."""
    check_guards(plan, guards)
    check_prices(plan, prices)
    harm = harm_to(_barred(plan, gaps(plan)), guards)
    if harm is not None:
        guard, course = harm
        raise Always(guard, course)
    return cheapest_past(Harms(plan, guards), prices)


def cheapest_past(harms, prices):
    """Return a tuple of the least price of barriers that leave no harm, and their gaps, where there are such."""
    queue, seen = [(0, [])], {}
    while True:
        price, chosen = heappop(queue)
        told = harms.left_with(chosen)
        if told is None:
            return (price, chosen)
        # Each list of gaps that is enough and has all of these has one of the shutters, too.
        for gap in told[0]:
            more = sorted(chosen + [gap])
            if tuple(more) not in seen:
                seen[tuple(more)] = True
                heappush(queue, (price + prices[gap], more))


def is_safe(plan, guards, thing):
    """Return whether a thing is a list of different gaps such that barriers there let no guard be found."""
    check_guards(plan, guards)
    return _are_gaps(plan, thing) and harm_to(_barred(plan, thing), guards) is None
