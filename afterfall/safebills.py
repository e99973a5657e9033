"""Bills of histories: why barriers with which no history does harm cost at least a number."""

from afterfall.bills import is_spent, tree_behind
from afterfall.cells import agrees
from afterfall.fallcounts import check_number
from afterfall.guards import check_guards
from afterfall.kinds import is_index, is_integer
from afterfall.restarts import check_many, check_rules, rule_for, stages_of
from afterfall.safegaps import HistoryHarms, check_falls, check_gap_prices, shutters_in


def safe_bill(plan, rules, guards, prices, number, *, falls=None):
    """Return a tree that shows that such barriers cost at least a number, or None if cheaper ones are enough."""
    _check_order(plan, rules, guards, prices, number, falls)
    return tree_behind(HistoryHarms(plan, rules, guards, falls), "unsafe", (prices, number), [])


def _check_order(plan, rules, guards, prices, number, falls):
    """Raise the error of the first argument that is wrong."""
    check_rules(plan, rules)
    check_guards(plan, guards)
    check_gap_prices(plan, rules, prices)
    check_number(number)
    check_falls(falls)
    check_many(plan, rules)


def is_safe_bill(plan, rules, guards, prices, number, thing, *, falls=None):
    """Return whether a thing is a tree that shows that such barriers cost at least a number."""
    _check_order(plan, rules, guards, prices, number, falls)
    return _is_tree(Judge(plan, rules, guards, falls), (prices, number), thing, [])


def _is_tree(judge, cost, thing, chosen):
    """Return whether a thing is a tree for the way on which gaps got a barrier."""
    if is_spent(cost, chosen):
        return thing == ("spent",)
    if not isinstance(thing, tuple) or len(thing) != 4:
        return False
    word, guard, history, trees = thing
    if word != "unsafe" or not isinstance(trees, list):
        return False
    shutters = judge.shutters_for(guard, history)
    # With barriers at the gaps on the way it is a history just if none of these shuts it.
    if shutters is None or len(trees) != len(shutters) or any([gap in chosen for gap in shutters]):
        return False
    for gap, tree in zip(shutters, trees):
        if not _is_tree(judge, cost, tree, chosen + [gap]):
            return False
    return True


class Judge:
    """What is known of the histories in a tree, each of which may stand there many times."""

    def __init__(self, plan, rules, guards, falls):
        self.first = plan
        self.rules = rules
        self.guards = guards
        self.falls = falls
        self.restarts = {}
        self.known = {}

    def shutters_for(self, guard, history):
        """Return the gaps that shut a history that does harm by the guard with an index, None for all other things."""
        if not is_index(guard, len(self.guards)) or not _is_list_of_lists(history):
            return None
        key = tuple([tuple(fall) for fall in history])
        if key not in self.known:
            self.known[key] = self._judged(history)
        content, shutters = self.known[key]
        return shutters if content is not None and agrees(self.guards[guard], content) else None

    def _judged(self, history):
        """Return the content at rest to which few enough falls broken off lead, and the shutters, or None twice."""
        stages = stages_of(self.first, self.rules, history, self.restarts)
        if stages is None:
            return None, None
        broken = [fall for stage, fall in zip(stages, history) if len(fall) < len(stage[1].pieces)]
        content = stages[-1][2]
        if rule_for(self.rules, content) is not None or (self.falls is not None and len(broken) > self.falls):
            return None, None
        return content, shutters_in(stages, history)


def _is_list_of_lists(thing):
    """Return whether a thing is a list of lists of integers."""
    if not isinstance(thing, list) or not all([isinstance(part, list) for part in thing]):
        return False
    return all([is_integer(piece) for part in thing for piece in part])
