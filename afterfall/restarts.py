"""Restarts by rules, and what any number of falls during restarts can lead to."""

from afterfall.cells import agrees, is_content, is_pattern
from afterfall.contents import check_content
from afterfall.errors import InvalidHistory, InvalidRules, TooMany
from afterfall.falls import is_fall, overwritten
from afterfall.finding import fall_leaving
from afterfall.guards import check_guards
from afterfall.kinds import is_ascending, is_index, is_integer
from afterfall.plans import Plan, are_steps
from afterfall.same import left_by

MOST_RULES = 8
MOST_REACHED = 99


def are_rules(plan, thing):
    """Return whether a thing is a list of rules of a plan."""
    if not isinstance(thing, list) or len(thing) > MOST_RULES:
        return False
    return all([_is_rule(plan, rule) for rule in thing])


def _is_rule(plan, thing):
    if not isinstance(thing, tuple) or len(thing) != 2:
        return False
    pattern, steps = thing
    cells = len(plan.base)
    return is_pattern(cells, pattern) and are_steps(cells, plan.width, steps) and len(steps) > 0


def check_rules(plan, rules):
    """Raise InvalidRules unless these are rules of the plan."""
    if not are_rules(plan, rules):
        raise InvalidRules("not a list of up to eight rules of the plan")


def restart(plan, rules, content):
    """Return the restart of a content, or None if it is at rest."""
    check_rules(plan, rules)
    check_content(plan, content)
    return restart_of(plan, rules, content)


def restart_of(plan, rules, content):
    """Return the same as `restart`, for what are known to be rules and a content."""
    for pattern, steps in rules:
        if agrees(pattern, content):
            return Plan(content, plan.width, steps)
    return None


def is_history(plan, rules, thing):
    """Return whether a thing is a history."""
    check_rules(plan, rules)
    return found_behind(plan, rules, thing) is not None


def content_behind(plan, rules, history):
    """Return what is found after the last fall of a history."""
    check_rules(plan, rules)
    content = found_behind(plan, rules, history)
    if content is None:
        raise InvalidHistory("not a history of the plan with these rules")
    return content


def found_behind(plan, rules, thing):
    """Return what is found after the last fall of a thing, or None if it is no history."""
    if not isinstance(thing, list):
        return None
    running, content = plan, None
    for fall in thing:
        if running is None or not is_fall(running, fall):
            return None
        content = overwritten(running, fall)
        running = restart_of(plan, rules, content)
    return content


class Reach:
    """What histories lead to: the contents that are found after them.

    Each has the content ahead of it in one of the shortest histories, None if it is found after the
    first fall. Those that are not at rest have, as keys, what their restarts leave without a fall.
    """

    def __init__(self, first, rules):
        self.first = first
        self.rules = rules
        self.ahead = {}
        self.whole = {}
        found, _ = left_by(first, MOST_REACHED)
        waiting = self._added(found, None)
        while waiting:
            behind = []
            for content in waiting:
                running = restart_of(first, rules, content)
                if running is not None:
                    found, self.whole[content] = left_by(running, MOST_REACHED)
                    behind.extend(self._added(found, content))
            waiting = behind

    def _added(self, found, ahead):
        """Add contents that are found behind one, and return those that are new."""
        added = [content for content in found if content not in self.ahead]
        for content in added:
            self.ahead[content] = ahead
        if len(self.ahead) > MOST_REACHED:
            raise TooMany("there are more than 99 contents")
        return added

    def history_to(self, content):
        """Return a history after which a content that is reached is found."""
        way = [content]
        while self.ahead[way[-1]] is not None:
            way.append(self.ahead[way[-1]])
        running, history = self.first, []
        for found in reversed(way):
            history.append(fall_leaving(running, {cell: (worth,) for cell, worth in enumerate(found)}))
            running = restart_of(self.first, self.rules, found)
        return history


def reached(plan, rules):
    """Return the ascending list of all contents that are found after histories."""
    check_rules(plan, rules)
    return sorted(Reach(plan, rules).ahead)


def unsafe(plan, rules, guards):
    """Return a tuple of the index of the first guard that content at rest matches, and a history to it, or None."""
    check_rules(plan, rules)
    check_guards(plan, guards)
    return _unsafe_in(Reach(plan, rules), guards)


def _unsafe_in(reach, guards):
    """Return the same as `unsafe`, for what is reached."""
    for index, guard in enumerate(guards):
        for content in reach.ahead:
            if content not in reach.whole and agrees(guard, content):
                return (index, reach.history_to(content))
    return None


def is_unsafe(plan, rules, guards, thing):
    """Return whether a thing is a tuple of the index of a guard and a history to content at rest that matches it."""
    check_rules(plan, rules)
    check_guards(plan, guards)
    if not isinstance(thing, tuple) or len(thing) != 2:
        return False
    guard, history = thing
    content = found_behind(plan, rules, history)
    if not is_index(guard, len(guards)) or content is None:
        return False
    return restart_of(plan, rules, content) is None and agrees(guards[guard], content)


def closed(plan, rules, guards):
    """Return a paper that no history leads to content at rest that matches a guard, or None."""
    check_rules(plan, rules)
    check_guards(plan, guards)
    reach = Reach(plan, rules)
    return sorted(reach.ahead) if _unsafe_in(reach, guards) is None else None


def is_closed(plan, rules, guards, thing):
    """Return whether a thing is a paper that no history leads to content at rest that matches a guard."""
    check_rules(plan, rules)
    check_guards(plan, guards)
    if not is_list_of_contents(plan, thing) or not leaves_only(plan, thing):
        return False
    for content in thing:
        running = restart_of(plan, rules, content)
        if running is None:
            if any([agrees(guard, content) for guard in guards]):
                return False
        elif not leaves_only(running, thing):
            return False
    return True


def is_list_of_contents(plan, thing):
    """Return whether a thing is an ascending list of at most 99 different contents for the cells of a plan."""
    if not isinstance(thing, list) or len(thing) > MOST_REACHED:
        return False
    return all([is_content(content) and len(content) == len(plan.base) for content in thing]) and is_ascending(thing)


def leaves_only(plan, listed):
    """Return whether all that falls of a plan can leave is in a list of at most 99 contents."""
    found, _ = left_by(plan, MOST_REACHED)
    return all([content in listed for content in found])


def rests(plan, rules):
    """Return a dict from contents to integers that get less with each restart that does not fall, or None."""
    check_rules(plan, rules)
    whole = Reach(plan, rules).whole
    ranks = _ranks_of(whole)
    if len(ranks) < len(whole):
        return None
    return {content: ranks[content] for content in sorted(ranks)}


def _ranks_of(whole):
    """Return such integers for as many contents as can have one."""
    ranks, rank, many = {}, 0, -1
    while len(ranks) != many:
        many = len(ranks)
        ready = [content for content in whole if not _unranked_behind(whole, ranks, content)]
        for content in ready:
            ranks.setdefault(content, rank)
        rank += 1
    return ranks


def _unranked_behind(whole, ranks, content):
    """Return what a restart leaves without a fall that is not at rest and has no integer yet."""
    return [other for other in whole[content] if other in whole and other not in ranks]


def is_rests(plan, rules, thing):
    """Return whether a thing is a dict as `rests` returns it."""
    check_rules(plan, rules)
    whole = Reach(plan, rules).whole
    if not isinstance(thing, dict) or not all([is_content(content) for content in thing]):
        return False
    if sorted(thing) != sorted(whole) or not all([is_integer(thing[content]) for content in thing]):
        return False
    for content in whole:
        behind = [thing[other] for other in whole[content] if other in whole]
        if thing[content] <= max(behind, default=-1):
            return False
    return True


def circle(plan, rules):
    """Return a list of contents, each left by the restart of the one ahead of it, that ends as it begins, or None."""
    check_rules(plan, rules)
    whole = Reach(plan, rules).whole
    ranks = _ranks_of(whole)
    endless = [content for content in whole if content not in ranks]
    if not endless:
        return None
    way, ahead = [], endless[0]
    while ahead not in way:
        way.append(ahead)
        ahead = _unranked_behind(whole, ranks, ahead)[0]
    return way[way.index(ahead):] + [ahead]


def is_circle(plan, rules, thing):
    """Return whether a thing is a list as `circle` returns it."""
    check_rules(plan, rules)
    whole = Reach(plan, rules).whole
    if not isinstance(thing, list) or len(thing) < 2:
        return False
    if not all([is_content(content) and content in whole for content in thing]):
        return False
    if thing[0] != thing[-1] or len(set(thing)) != len(thing) - 1:
        return False
    return all([thing[at + 1] in whole[thing[at]] for at in range(len(thing) - 1)])
