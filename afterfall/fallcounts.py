"""How many falls must be broken off until harm is done."""

from afterfall.cells import agrees
from afterfall.contents import is_content_for
from afterfall.errors import InvalidNumber
from afterfall.guards import check_guards
from afterfall.kinds import is_integer
from afterfall.restarts import MOST_REACHED, Reach, check_many, check_rules, harm_in, restart_of
from afterfall.same import left_by


def fewest_falls(plan, rules, guards):
    """Return a tuple of the least number of falls broken off that do harm, a guard and such a history, or None."""
    check_rules(plan, rules)
    check_guards(plan, guards)
    reach = Reach(plan, rules)
    least = _least_in(reach, guards)
    if least is None:
        return None
    guard, content = harm_in(reach, guards, least)
    return (least, guard, reach.history_to(content))


def _least_in(reach, guards):
    """Return the least number of falls that are broken off in a history that does harm, or None."""
    numbers = [reach.numbers[content] for guard in guards for content in reach.resting(guard)]
    return min(numbers, default=None)


def check_number(number):
    """Raise InvalidNumber unless this is an integer from 0 on."""
    if not is_integer(number) or number < 0:
        raise InvalidNumber("not an integer from 0 on")


def fall_levels(plan, rules, guards, number):
    """Return a paper that harm takes at least a number of falls that are broken off, or None."""
    _check_order(plan, rules, guards, number)
    reach = Reach(plan, rules)
    least = _least_in(reach, guards)
    if least is not None and least < number:
        return None
    return {content: reach.numbers[content] for content in reach.contents()}


def _check_order(plan, rules, guards, number):
    """Raise the error of the first argument that is wrong."""
    check_rules(plan, rules)
    check_guards(plan, guards)
    check_number(number)


def is_fall_levels(plan, rules, guards, number, thing):
    """Return whether a thing is a paper that harm takes at least a number of falls that are broken off."""
    _check_order(plan, rules, guards, number)
    check_many(plan, rules)
    if not _are_levels(plan, thing) or not _keeps_level(plan, thing, 0):
        return False
    for content in thing:
        running = restart_of(plan, rules, content)
        if running is None:
            if thing[content] < number and any([agrees(guard, content) for guard in guards]):
                return False
        elif not _keeps_level(running, thing, thing[content]):
            return False
    return True


def _are_levels(plan, thing):
    """Return whether a thing is a dict from at most 99 contents to integers from 0 on."""
    if not isinstance(thing, dict) or len(thing) > MOST_REACHED:
        return False
    if not all([is_content_for(plan, content) for content in thing]):
        return False
    return all([is_integer(thing[content]) and thing[content] >= 0 for content in thing])


def _keeps_level(plan, levels, level):
    """Return whether what a plan can leave has at most a level, and one more if a fall is broken off."""
    found, whole = left_by(plan, MOST_REACHED)
    if not all([content in levels and levels[content] <= level + 1 for content in found]):
        return False
    return all([levels[content] <= level for content in whole])
