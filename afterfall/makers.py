"""Makers of well-known plans: one write, a copy with a switch, and a log that is written ahead."""

from afterfall.cells import ALL_WORTHS, are_worths
from afterfall.errors import InvalidBarriers, InvalidWorths
from afterfall.plans import Plan

MOST_WORTHS = 7


def _check_worths(olds, news):
    if not are_worths(olds) or not are_worths(news) or len(olds) != len(news) or len(olds) > MOST_WORTHS:
        raise InvalidWorths("not two tuples of as many worths, one to seven")


def _check_barriers(many, barriers):
    if not isinstance(barriers, tuple) or len(barriers) != many or not all([isinstance(at, bool) for at in barriers]):
        raise InvalidBarriers("not a tuple of as many bools as there are writes behind the first one")


def straight(olds, news):
    """Return the plan that writes news over olds at once, and its guards."""
    _check_worths(olds, news)
    return (Plan(olds, 1, [(0, news)]), _mixed(olds, news, 0, {}))


def switched(olds, news, barriers):
    """Return the plan that writes a copy and then the switch to it, and its guards."""
    _check_worths(olds, news)
    _check_barriers(1, barriers)
    many = len(olds)
    switch = 2 * many
    steps = _with_barriers([(many, news), (switch, (1,))], barriers)
    return (Plan(olds + (0,) * (many + 1), 1, steps), _unlike(news, many, switch))


def logged(olds, news, barriers):
    """Return the plan that writes a log, the switch, the cells and the switch again, and its guards."""
    _check_worths(olds, news)
    _check_barriers(3, barriers)
    switch = len(olds)
    writes = [(0, news), (switch, (1,)), (switch + 1, news), (switch, (0,))]
    guards = _unlike(news, 0, switch) + _mixed(olds, news, switch + 1, {switch: (0,)})
    return (Plan((0,) * (switch + 1) + olds, 1, _with_barriers(writes, barriers)), guards)


def log_rules(olds, news, barrier):
    """Return the rules that restart the plan with a log: its last two writes, while the switch is 1."""
    _check_worths(olds, news)
    if not isinstance(barrier, bool):
        raise InvalidBarriers("not a bool")
    switch = len(olds)
    steps = _with_barriers([(switch + 1, news), (switch, (0,))], (barrier,))
    return [({switch: (1,)}, steps)]


def _with_barriers(writes, barriers):
    """Return the steps: writes, with a barrier ahead of those behind the first one where a bool says so."""
    steps = writes[:1]
    for write, barrier in zip(writes[1:], barriers):
        if barrier:
            steps.append(None)
        steps.append(write)
    return steps


def _mixed(olds, news, first, while_so):
    """Return the guards of one old and one new worth, in cells from a first one on, while a pattern is matched."""
    changing = [at for at in range(len(olds)) if olds[at] != news[at]]
    guards = []
    for old in changing:
        for new in changing:
            if old != new:
                held = {**while_so, first + old: (olds[old],), first + new: (news[new],)}
                guards.append({cell: held[cell] for cell in sorted(held)})
    return guards


def _unlike(news, first, switch):
    """Return the guards of a worth other than the new one, in cells from a first one on, while the switch is 1."""
    others = [tuple([worth for worth in ALL_WORTHS if worth != new]) for new in news]
    return [{first + at: others[at], switch: (1,)} for at in range(len(news))]
