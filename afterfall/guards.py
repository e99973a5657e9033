"""Guards: bad patterns, that must not be found."""

from afterfall.cells import agrees, is_pattern
from afterfall.errors import InvalidGuards
from afterfall.falls import is_fall, overwritten
from afterfall.finding import fall_leaving
from afterfall.kinds import is_index

MOST_GUARDS = 99


def are_guards(plan, thing):
    """Return whether a thing is a list of guards for the cells of a plan."""
    if not isinstance(thing, list) or len(thing) > MOST_GUARDS:
        return False
    return all([is_pattern(len(plan.base), guard) for guard in thing])


def check_guards(plan, guards):
    """Raise InvalidGuards unless these are guards for the cells of the plan."""
    if not are_guards(plan, guards):
        raise InvalidGuards("not a list of up to 99 patterns for the cells of the plan")


def harm(plan, guards):
    """Return a tuple of the index of the first guard that can be found and a fall after which it is, or None."""
    check_guards(plan, guards)
    return harm_to(plan, guards)


def harm_to(plan, guards):
    """Return the same as `harm`, for what is known to be guards."""
    for index, guard in enumerate(guards):
        fall = fall_leaving(plan, guard)
        if fall is not None:
            return (index, fall)
    return None


def is_harm(plan, guards, thing):
    """Return whether a thing is a tuple of the index of a guard and a fall after which it is found."""
    check_guards(plan, guards)
    if not isinstance(thing, tuple) or len(thing) != 2:
        return False
    return does_harm(plan, guards, *thing)


def does_harm(plan, guards, guard, fall):
    """Return whether two things are the index of a guard and a fall after which it is found."""
    if not is_index(guard, len(guards)) or not is_fall(plan, fall):
        return False
    return agrees(guards[guard], overwritten(plan, fall))
