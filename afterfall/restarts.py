"""Restarts by rules, and what any number of falls during restarts can lead to."""

from afterfall.cells import agrees, code_of, decoded, is_content, is_pattern
from afterfall.contents import check_content, is_content_for
from afterfall.errors import InvalidHistory, InvalidRules, TooMany
from afterfall.falls import is_fall, overwritten
from afterfall.finding import fall_behind
from afterfall.guards import check_guards
from afterfall.kinds import is_ascending, is_index, is_integer
from afterfall.plans import Plan, are_steps
from afterfall.same import left_by, left_from, overlays_of

MOST_RULES = 8
MOST_REACHED = 99
FOUND = 0
WHOLE = 1


def are_rules(plan, thing):
    """Return whether a thing is a list of rules of a plan."""
    if not isinstance(thing, list) or len(thing) > MOST_RULES:
        return False
    return all([_is_rule(plan, rule) for rule in thing])


def _is_rule(plan, thing):
    if not isinstance(thing, tuple) or len(thing) != 2:
        return False
    pattern, steps = thing
    cells = len(plan.base)
    return is_pattern(cells, pattern) and are_steps(cells, plan.width, steps) and len(steps) > 0


def check_rules(plan, rules):
    """Raise InvalidRules unless these are rules of the plan."""
    if not are_rules(plan, rules):
        raise InvalidRules("not a list of up to eight rules of the plan")


def restart(plan, rules, content):
    """Return the restart of a content, or None if it is at rest."""
    check_rules(plan, rules)
    check_content(plan, content)
    return restart_of(plan, rules, content)


def restart_of(plan, rules, content):
    """Return the same as `restart`, for what are known to be rules and a content."""
    return placed_restart(plan, rules, content)[1]


def rule_for(rules, content):
    """Return the index of the rule that restarts a content, or None if it is at rest."""
    for index, (pattern, _) in enumerate(rules):
        if agrees(pattern, content):
            return index
    return None


def is_history(plan, rules, thing):
    """Return whether a thing is a history."""
    check_rules(plan, rules)
    return stages_of(plan, rules, thing, {}) is not None


def content_behind(plan, rules, history):
    """Return what is found after the last fall of a history."""
    check_rules(plan, rules)
    return check_history(plan, rules, history)[-1][2]


def check_history(plan, rules, history):
    """Return the stages of a history; raise InvalidHistory if it is none."""
    stages = stages_of(plan, rules, history, {})
    if stages is None:
        raise InvalidHistory("not a history of the plan with these rules")
    return stages


def stages_of(plan, rules, thing, known):
    """Return for each fall of a history where it happens, of what it is one and what is found, or None if it is none.

    The place is 0 for the plan, and one more than the index of the rule for a restart. What restarts
    each content is kept in a dict that is passed, since histories come to the same ones often.
    """
    if not isinstance(thing, list) or not thing:
        return None
    place, running, stages = 0, plan, []
    for fall in thing:
        if running is None or not is_fall(running, fall):
            return None
        content = overwritten(running, fall)
        stages.append((place, running, content))
        if content not in known:
            known[content] = placed_restart(plan, rules, content)
        place, running = known[content]
    return stages


def placed_restart(plan, rules, content):
    """Return the place of the restart of a content and this restart, None twice if the content is at rest."""
    rule = rule_for(rules, content)
    return (None, None) if rule is None else (rule + 1, Plan(content, plan.width, rules[rule][1]))


class Reach:
    """What histories lead to: the contents that are found after them.

    `left` has for each content that is not at rest two lists: what its restart can leave, and what it
    can leave with all its pieces; for None, which stands for the beginning, the same of the plan.
    `numbers` has for each content the least number of falls that are broken off in a history to it,
    `ahead` the content ahead of it in such a history, None if it is found after the first fall.
    Restarts by a rule `without` are not looked at; with claims, only first falls that fit them are.
    """

    def __init__(self, first, rules, without=None, claims=None):
        self.first = first
        self.rules = rules
        self.without = without
        self.claims = claims
        self.overlays = [overlays_of(Plan(first.base, first.width, steps)) for _, steps in rules]
        self.known = {}
        self.left = {None: self._left_first()}
        self.numbers = {}
        self.ahead = {}
        number, level = 0, [None]
        while level:
            level = self._behind_whole(level, number)
            number += 1
            level = self._behind(level, FOUND, number)

    def _left_first(self):
        """Return the two lists of what the plan can leave, the second one empty if there are claims."""
        found, whole = left_by(self.first, MOST_REACHED)
        if self.claims is None:
            return found, whole
        return [content for content in found if fall_to(self.first, content, self.claims) is not None], []

    def _behind_whole(self, level, number):
        """Return some contents with those to which restarts that do not fall lead from them."""
        behind, waiting = [], level
        while waiting:
            behind.extend(waiting)
            waiting = self._behind(waiting, WHOLE, number)
        return behind

    def _behind(self, level, which, number):
        """Return the list of what has no number yet and is in one of the two lists of some contents; it gets one."""
        behind = []
        for content in level:
            for other in self._left_behind(content)[which]:
                if other not in self.numbers:
                    self.numbers[other] = number
                    self.ahead[other] = content
                    behind.append(other)
            if len(self.numbers) > MOST_REACHED:
                raise TooMany("there are more than 99 contents")
        return behind

    def _left_behind(self, content):
        """Return the two lists of a content, empty ones if there is no restart of it to be looked at."""
        if content not in self.left:
            rule = rule_for(self.rules, content)
            if rule is None or rule == self.without:
                return [], []
            found, whole = left_from(code_of(content), self.overlays[rule], MOST_REACHED)
            self.left[content] = self._all_decoded(found), self._all_decoded(whole)
        return self.left[content]

    def _all_decoded(self, codes):
        """Return the list of the contents that have these codes, each of which is decoded once."""
        for code in codes:
            if code not in self.known:
                self.known[code] = decoded(len(self.first.base), code)
        return [self.known[code] for code in codes]

    def contents(self):
        """Return the ascending list of all contents that are found."""
        return sorted(self.numbers)

    def resting(self, pattern):
        """Return the list of the contents at rest that match a pattern, those with the least numbers first."""
        return [content for content in self.numbers if content not in self.left and agrees(pattern, content)]

    def leading_to(self, ends):
        """Return, as keys, the contents from which any restarts, or none, lead to one of some contents."""
        leading, many = {content: True for content in ends}, -1
        going = [content for content in self.left if content is not None]
        while len(leading) != many:
            many = len(leading)
            for content in going:
                if any([other in leading for other in self.left[content][FOUND]]):
                    leading[content] = True
        return leading

    def whole(self):
        """Return a dict from the contents that are not at rest to what their restarts leave without a fall."""
        return {content: self.left[content][WHOLE] for content in self.left if content is not None}

    def history_to(self, content):
        """Return a history to a content that is found, with as few falls broken off as can be."""
        way = [content]
        while self.ahead[way[-1]] is not None:
            way.append(self.ahead[way[-1]])
        history, running, number, claims = [], self.first, 0, self.claims
        for found in reversed(way):
            if claims is None:
                claims = _claims_of(running, self.numbers[found] == number)
            history.append(fall_to(running, found, claims))
            running, number, claims = restart_of(self.first, self.rules, found), self.numbers[found], None
        return history


def _claims_of(plan, whole):
    """Return the claims that all pieces of a plan came, or those that claim nothing."""
    return (list(range(len(plan.pieces))) if whole else [], [], [])


def fall_to(plan, content, claims):
    """Return a fall that fits claims and leaves a content, or None."""
    return fall_behind(plan, {cell: (worth,) for cell, worth in enumerate(content)}, claims, [])


def check_many(plan, rules):
    """Raise TooMany if histories lead to more than 99 contents."""
    Reach(plan, rules)


def reached(plan, rules):
    """Return the ascending list of all contents that are found after histories."""
    check_rules(plan, rules)
    return Reach(plan, rules).contents()


def unsafe(plan, rules, guards):
    """Return a tuple of the index of the first guard that content at rest matches, and a history to it, or None."""
    check_rules(plan, rules)
    check_guards(plan, guards)
    return _unsafe_in(Reach(plan, rules), guards)


def _unsafe_in(reach, guards):
    """Return the same as `unsafe`, for what is reached."""
    harm = harm_in(reach, guards, None)
    if harm is None:
        return None
    guard, content = harm
    return (guard, reach.history_to(content))


def harm_in(reach, guards, falls):
    """Return the index of the first guard that content at rest matches, and that content, or None.

    If there is a number of falls, only content counts that so many falls that are broken off lead to.
    """
    for index, guard in enumerate(guards):
        for content in reach.resting(guard):
            if falls is None or reach.numbers[content] <= falls:
                return (index, content)
    return None


def is_unsafe(plan, rules, guards, thing):
    """Return whether a thing is a tuple of the index of a guard and a history to content at rest that matches it."""
    check_rules(plan, rules)
    check_guards(plan, guards)
    if not isinstance(thing, tuple) or len(thing) != 2:
        return False
    guard, history = thing
    stages = stages_of(plan, rules, history, {})
    if not is_index(guard, len(guards)) or stages is None:
        return False
    content = stages[-1][2]
    return rule_for(rules, content) is None and agrees(guards[guard], content)


def closed(plan, rules, guards):
    """Return a paper that no history leads to content at rest that matches a guard, or None."""
    check_rules(plan, rules)
    check_guards(plan, guards)
    reach = Reach(plan, rules)
    return reach.contents() if _unsafe_in(reach, guards) is None else None


def is_closed(plan, rules, guards, thing):
    """Return whether a thing is a paper that no history leads to content at rest that matches a guard."""
    check_rules(plan, rules)
    check_guards(plan, guards)
    if not is_list_of_contents(plan, thing) or not leaves_only(plan, thing):
        return False
    for content in thing:
        running = restart_of(plan, rules, content)
        if running is None:
            if any([agrees(guard, content) for guard in guards]):
                return False
        elif not leaves_only(running, thing):
            return False
    return True


def is_list_of_contents(plan, thing):
    """Return whether a thing is an ascending list of at most 99 different contents for the cells of a plan."""
    if not isinstance(thing, list) or len(thing) > MOST_REACHED:
        return False
    return all([is_content_for(plan, content) for content in thing]) and is_ascending(thing)


def leaves_only(plan, listed):
    """Return whether all that falls of a plan can leave is in a list of at most 99 contents."""
    found, _ = left_by(plan, MOST_REACHED)
    return all([content in listed for content in found])


def rests(plan, rules):
    """Return a dict from contents to integers that get less with each restart that does not fall, or None."""
    check_rules(plan, rules)
    whole = Reach(plan, rules).whole()
    ranks = _ranks_of(whole)
    if len(ranks) < len(whole):
        return None
    return {content: ranks[content] for content in sorted(ranks)}


def _ranks_of(whole):
    """Return such integers for as many contents as can have one."""
    ranks, rank, many = {}, 0, -1
    while len(ranks) != many:
        many = len(ranks)
        ready = [content for content in whole if not _unranked_behind(whole, ranks, content)]
        for content in ready:
            ranks.setdefault(content, rank)
        rank += 1
    return ranks


def _unranked_behind(whole, ranks, content):
    """Return what a restart leaves without a fall that is not at rest and has no integer yet."""
    return [other for other in whole[content] if other in whole and other not in ranks]


def is_rests(plan, rules, thing):
    """Return whether a thing is a dict as `rests` returns it."""
    check_rules(plan, rules)
    whole = Reach(plan, rules).whole()
    if not isinstance(thing, dict) or not all([is_content(content) for content in thing]):
        return False
    if sorted(thing) != sorted(whole) or not all([is_integer(thing[content]) for content in thing]):
        return False
    for content in whole:
        behind = [thing[other] for other in whole[content] if other in whole]
        if thing[content] <= max(behind, default=-1):
            return False
    return True


def circle(plan, rules):
    """Return a list of contents, each left by the restart of the one ahead of it, that ends as it begins, or None."""
    check_rules(plan, rules)
    whole = Reach(plan, rules).whole()
    ranks = _ranks_of(whole)
    endless = [content for content in whole if content not in ranks]
    if not endless:
        return None
    way, ahead = [], endless[0]
    while ahead not in way:
        way.append(ahead)
        ahead = _unranked_behind(whole, ranks, ahead)[0]
    return way[way.index(ahead):] + [ahead]


def is_circle(plan, rules, thing):
    """Return whether a thing is a list as `circle` returns it."""
    check_rules(plan, rules)
    whole = Reach(plan, rules).whole()
    if not isinstance(thing, list) or len(thing) < 2:
        return False
    if not all([is_content(content) and content in whole for content in thing]):
        return False
    if thing[0] != thing[-1] or len(set(thing)) != len(thing) - 1:
        return False
    return all([thing[at + 1] in whole[thing[at]] for at in range(len(thing) - 1)])
