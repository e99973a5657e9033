"""Barriers at gaps of a plan and of the rules that restart it, and the cheapest ones that let no history do harm."""

from afterfall.barriers import Harms, cheapest_past, gaps_among, is_price, shutters_of, steps_barred
from afterfall.errors import Always, InvalidNumber, InvalidPrices, UnknownGap
from afterfall.guards import check_guards
from afterfall.kinds import is_integer
from afterfall.plans import Plan
from afterfall.restarts import Reach, check_history, check_many, check_rules, harm_in, stages_of


def safe_gaps(plan, rules):
    """Return the ascending list of the gaps of a plan with rules."""
    check_rules(plan, rules)
    return all_gaps(plan, rules)


def all_gaps(plan, rules):
    """Return the same as `safe_gaps`, for what are known to be rules."""
    places = [plan.steps] + [steps for _, steps in rules]
    return [(place, gap) for place, steps in enumerate(places) for gap in gaps_among(steps)]


def is_one_of(able, thing):
    """Return whether a thing is one of the gaps that are listed."""
    # A bool is equal to an integer, but a tuple with one is no gap.
    return isinstance(thing, tuple) and all([is_integer(part) for part in thing]) and thing in able


def _are_some_of(able, thing):
    """Return whether a thing is a list of different ones of the gaps that are listed."""
    if not isinstance(thing, list) or not all([is_one_of(able, gap) for gap in thing]):
        return False
    return len(set(thing)) == len(thing)


def with_gaps(plan, rules, chosen):
    """Return the tuple of the plan and the rules with a barrier at each of some gaps."""
    check_rules(plan, rules)
    if not _are_some_of(all_gaps(plan, rules), chosen):
        raise UnknownGap("not a list of different gaps of the plan with these rules")
    return barred_at(plan, rules, chosen)


def barred_at(plan, rules, chosen):
    """Return the same as `with_gaps`, for what are known to be gaps."""
    barred = []
    for index, (pattern, steps) in enumerate(rules):
        asked = {cell: pattern[cell] for cell in sorted(pattern)}
        barred.append((asked, steps_barred(steps, gaps_at(index + 1, chosen))))
    return Plan(plan.base, plan.width, steps_barred(plan.steps, gaps_at(0, chosen))), barred


def gaps_at(place, chosen):
    """Return the gaps, without their place, of those that have a place."""
    return [gap for at, gap in chosen if at == place]


def history_gaps(plan, rules, history):
    """Return the ascending list of the gaps that shut a history."""
    check_rules(plan, rules)
    return shutters_in(check_history(plan, rules, history), history)


def shutters_in(stages, history):
    """Return the same as `history_gaps`, for a history with its stages."""
    shutting = {}
    for (place, running, _), fall in zip(stages, history):
        for gap in shutters_of(running, fall):
            shutting[(place, gap)] = True
    return sorted(shutting)


def check_gap_prices(plan, rules, prices):
    """Raise InvalidPrices unless these are prices of all gaps of the plan with rules."""
    if not _are_gap_prices(all_gaps(plan, rules), prices):
        raise InvalidPrices("not a dict from all gaps of the plan with these rules to integers from 1 to 999")


def _are_gap_prices(able, thing):
    if not isinstance(thing, dict) or len(thing) != len(able):
        return False
    return all([is_one_of(able, gap) and is_price(thing[gap]) for gap in thing])


def check_falls(falls):
    """Raise InvalidNumber unless this is an integer from 0 on, or None."""
    if falls is not None and (not is_integer(falls) or falls < 0):
        raise InvalidNumber("not an integer from 0 on, nor None")


class HistoryHarms(Harms):
    """The histories that do harm, as far as they were asked for, with the gaps that shut them."""

    def __init__(self, bare, rules, guards, falls):
        super().__init__(bare, guards)
        self.rules = rules
        self.falls = falls
        self.enough = []
        self.restarts = {}

    def asked(self, chosen):
        """Return the same as `left_with`, for a history that is looked for anew."""
        entry = self._found_with(chosen)
        if entry is None:
            return None
        for gap in all_gaps(self.bare, self.rules):
            # The fewer gaps shut a history, the more it tells of the barriers that are needed.
            other = entry
            if gap in entry[0]:
                other = self._found_with(chosen + [gap])
            if other is not None:
                chosen, entry = chosen + [gap], other
        return entry

    def _found_with(self, chosen):
        """Return a tuple (shutters, guard, history) of any history that does harm with some barriers, or None."""
        if any([all([gap in chosen for gap in enough]) for enough in self.enough]):
            return None
        harm = _harm_with(self.bare, self.rules, chosen, self.guards, self.falls)
        if harm is None:
            self.enough.append(chosen)
            return None
        guard, history = harm
        stages = stages_of(self.bare, self.rules, history, self.restarts)
        return (shutters_in(stages, history), guard, history)


def _harm_with(plan, rules, chosen, guards, falls):
    """Return a tuple of the index of a guard and a history that does harm with barriers at some gaps, or None."""
    barred, others = barred_at(plan, rules, chosen)
    reach = Reach(barred, others)
    harm = harm_in(reach, guards, falls)
    if harm is None:
        return None
    guard, content = harm
    return (guard, reach.history_to(content))


def cheapest_safe(plan, rules, guards, prices, *, falls=None):
    """Return a tuple of the least price of barriers with which no history does harm, and their gaps."""
    check_rules(plan, rules)
    check_guards(plan, guards)
    check_gap_prices(plan, rules, prices)
    check_falls(falls)
    check_many(plan, rules)
    harm = _harm_with(plan, rules, all_gaps(plan, rules), guards, falls)
    if harm is not None:
        guard, course = harm
        raise Always(guard, course)
    return cheapest_past(HistoryHarms(plan, rules, guards, falls), prices)


def is_safe_with(plan, rules, guards, thing, *, falls=None):
    """Return whether a thing is a list of different gaps such that with barriers there no history does harm."""
    check_rules(plan, rules)
    check_guards(plan, guards)
    check_falls(falls)
    check_many(plan, rules)
    if not _are_some_of(all_gaps(plan, rules), thing):
        return False
    return _harm_with(plan, rules, thing, guards, falls) is None
