"""The words of DOC.md about histories, gone through one by one, for small plans with few rules.

Nothing here uses the program, except for what a plan tells of itself.
"""

import itertools

from tests.oracle import (after, all_falls, barred, gaps_of, is_content_of, is_let, is_shut_by, is_whole, restart_for,
                          whole_contents, contents_of)


def rule_of(rules, content):
    """The index of the first rule whose pattern a content matches, or None."""
    return next((index for index, (pattern, _) in enumerate(rules) if is_let(pattern, content)), None)


def falls_by_content(plan):
    """All falls of a plan, by what they leave."""
    table = {}
    for fall in all_falls(plan):
        table.setdefault(after(plan, fall), []).append(fall)
    return table


class Ways:
    """All that the plan and the restarts can leave: for None and each content that is not at rest, its falls."""

    def __init__(self, plan, rules):
        self.plan, self.rules = plan, rules
        self.runs = {None: plan}
        self.falls = {None: falls_by_content(plan)}
        waiting = list(self.falls[None])
        self.found = set(waiting)
        while waiting:
            content = waiting.pop()
            runs = restart_for(plan, rules, content)
            if runs is not None:
                self.runs[content], self.falls[content] = runs, falls_by_content(runs)
                more = set(self.falls[content]) - self.found
                self.found |= more
                waiting.extend(more)

    def is_broken(self, ahead, fall):
        return len(fall) < len(self.runs[ahead].pieces)

    def numbers(self, most):
        """All tuples (content, number) such that a history with so many falls broken off leads to the content."""
        seen, waiting = set(), [(None, 0)]
        while waiting:
            ahead, number = waiting.pop()
            for content, falls in self.falls.get(ahead, {}).items():
                for one in {number + self.is_broken(ahead, fall) for fall in falls}:
                    if one <= most and (content, one) not in seen:
                        seen.add((content, one))
                        waiting.append((content, one))
        return seen

    def harms(self, guards, falls=None):
        """The set of the numbers of broken falls with which harm is done, up to a number if one is given."""
        most = len(self.found) if falls is None else min(falls, len(self.found))
        return {number for content, number in self.numbers(most)
                if content not in self.runs and any(is_let(guard, content) for guard in guards)}

    def behind(self, starts, without=None):
        """All that histories lead to from some contents, a rule perhaps not running."""
        seen, waiting = set(starts), list(starts)
        while waiting:
            content = waiting.pop()
            if content in self.falls and (without is None or rule_of(self.rules, content) != without):
                more = set(self.falls[content]) - seen
                seen |= more
                waiting.extend(more)
        return seen


def broken_in(plan, rules, history):
    """The number of falls of a history that are broken off."""
    runs, broken = plan, 0
    for fall in history:
        broken += len(fall) < len(runs.pieces)
        runs = restart_for(plan, rules, after(runs, fall))
    return broken


def contents_in(plan, rules, history):
    """What is found after each fall of a history."""
    runs, found = plan, []
    for fall in history:
        found.append(after(runs, fall))
        runs = restart_for(plan, rules, found[-1])
    return found


def does_harm(plan, rules, guards, guard, history, falls=None):
    """Whether a history does harm by the guard with an index; it is known to be one."""
    content = contents_in(plan, rules, history)[-1]
    if restart_for(plan, rules, content) is not None or not is_let(guards[guard], content):
        return False
    return falls is None or broken_in(plan, rules, history) <= falls


def is_list_of_falls(thing):
    return isinstance(thing, list) and all(isinstance(fall, list) and all(map(is_whole, fall)) for fall in thing)


def is_past(plan, rules, thing):
    """Whether a thing is a history, fall by fall."""
    if not is_list_of_falls(thing) or not thing:
        return False
    runs = plan
    for fall in thing:
        if runs is None or fall not in all_falls(runs):
            return False
        runs = restart_for(plan, rules, after(runs, fall))
    return True


def every_gap(plan, rules):
    """All gaps of a plan with rules, ascending."""
    gaps = [(0, gap) for gap in gaps_of(plan)]
    for index, (_, steps) in enumerate(rules):
        gaps.extend((index + 1, gap) for gap in gaps_of(type(plan)(plan.base, plan.width, steps)))
    return gaps


def all_barred(plan, rules, chosen):
    """The plan and the rules with barriers at some gaps."""
    others = []
    for index, (pattern, steps) in enumerate(rules):
        runs = type(plan)(plan.base, plan.width, steps)
        others.append((pattern, barred(runs, [gap for place, gap in chosen if place == index + 1]).steps))
    return barred(plan, [gap for place, gap in chosen if place == 0]), others


def shutters_of_all(plan, rules, history):
    """The gaps with whose barrier a history is none any more."""
    return [gap for gap in every_gap(plan, rules) if not is_past(*all_barred(plan, rules, [gap]), history)]


def subsets(things):
    return [list(some) for many in range(len(things) + 1) for some in itertools.combinations(things, many)]


def enough_lists(plan, rules, guards, falls=None):
    """All lists of gaps with which no history does harm."""
    lists = []
    for chosen in subsets(every_gap(plan, rules)):
        if any(set(other) <= set(chosen) for other in lists):
            lists.append(chosen)
        elif not Ways(*all_barred(plan, rules, chosen)).harms(guards, falls):
            lists.append(chosen)
    return lists


def is_bill_tree(plan, rules, guards, prices, number, thing, falls=None, chosen=()):
    """Whether a thing is a tree on the way to which these gaps got a barrier, condition by condition."""
    if not isinstance(thing, tuple) or not thing or not isinstance(thing[0], str):
        return False
    if sum(prices[gap] for gap in chosen) >= number:
        return len(thing) == 1 and thing[0] == "spent"
    if len(thing) != 4 or thing[0] != "unsafe":
        return False
    _, guard, history, trees = thing
    if not is_whole(guard) or not 0 <= guard < len(guards) or not is_past(*all_barred(plan, rules, chosen), history):
        return False
    if not does_harm(plan, rules, guards, guard, history, falls) or not isinstance(trees, list):
        return False
    gaps = [gap for gap in shutters_of_all(plan, rules, history) if gap not in chosen]
    if len(gaps) != len(trees):
        return False
    return all(is_bill_tree(plan, rules, guards, prices, number, tree, falls, (*chosen, gap))
               for gap, tree in zip(gaps, trees))


def is_level_dict(plan, rules, guards, number, thing):
    """Whether a thing is a paper that harm takes at least a number of falls, condition by condition."""
    if not isinstance(thing, dict) or len(thing) > 99 or not all(is_content_of(plan, key) for key in thing):
        return False
    if not all(is_whole(level) and level >= 0 for level in thing.values()):
        return False
    if not all(content in thing and thing[content] <= 1 for content in contents_of(plan)):
        return False
    if not all(thing[content] == 0 for content in whole_contents(plan)):
        return False
    for content, level in thing.items():
        runs = restart_for(plan, rules, content)
        if runs is None:
            if level < number and any(is_let(guard, content) for guard in guards):
                return False
        else:
            if not all(other in thing and thing[other] <= level + 1 for other in contents_of(runs)):
                return False
            if not all(thing[other] <= level for other in whole_contents(runs)):
                return False
    return True


def is_list_of_contents(plan, thing):
    if not isinstance(thing, list) or len(thing) > 99 or not all(is_content_of(plan, part) for part in thing):
        return False
    return all(one < two for one, two in zip(thing, thing[1:]))


def is_ran_list(plan, rules, content, index, thing):
    """Whether a thing is a paper that a rule ran in all histories to a content, condition by condition."""
    if not is_list_of_contents(plan, thing) or content in thing or not set(contents_of(plan)) <= set(thing):
        return False
    for left in thing:
        rule = rule_of(rules, left)
        if rule is not None and rule != index and not set(contents_of(restart_for(plan, rules, left))) <= set(thing):
            return False
    return True


def is_after_list(plan, rules, pattern, claims, thing):
    """Whether a thing is a paper that a pattern is found after no such history, condition by condition."""
    if not is_list_of_contents(plan, thing) or any(is_let(pattern, content) for content in thing):
        return False
    if not set(contents_of(plan, {}, claims)) <= set(thing):
        return False
    runs = [restart_for(plan, rules, content) for content in thing]
    return all(set(contents_of(one)) <= set(thing) for one in runs if one is not None)


def any_case(chance, plan_class, most_gaps=5, pieces=3):
    """A plan with one to three rules and a few gaps, that mostly lead to content at rest, and guards.

    The guards are mostly such that barriers at all gaps shut them out.
    """
    while True:
        cells, width = chance.randint(2, 3), chance.randint(1, 2)
        base = tuple(chance.choice((0, 0, 2)) for _ in range(cells))
        plan = plan_class(base, width, any_steps(chance, cells, chance.randint(1, pieces)))
        rules = []
        for _ in range(chance.randint(0, 3)):
            cell = chance.randrange(cells)
            pattern = {cell: (chance.randint(0, 2),)}
            if chance.random() < 0.4:
                pattern[(cell + 1) % cells] = tuple(sorted(chance.sample(range(3), chance.randint(1, 2))))
            rules.append((pattern, any_steps(chance, cells, chance.randint(1, 3))))
        if chance.random() < 0.1 and rules:
            rules.append((rules[-1][0], rules[0][1]))
        plans = [plan] + [plan_class(base, width, steps) for _, steps in rules]
        if max(len(one.pieces) for one in plans) > 4 or len(every_gap(plan, rules)) > most_gaps:
            continue
        guards = any_bad(chance, plan, rules)
        if guards is not None:
            return plan, rules, guards


def any_steps(chance, cells, writes):
    steps = []
    for _ in range(writes):
        if steps and chance.random() < 0.2:
            steps.append(None)
        first = chance.randrange(cells)
        many = 1 if chance.random() < 0.8 else chance.randint(1, cells - first)
        steps.append((first, tuple(chance.randrange(3) for _ in range(many))))
    if chance.random() < 0.1:
        steps.insert(chance.randrange(len(steps) + 1), None)
    return steps


def any_bad(chance, plan, rules):
    """Guards of contents at rest, mostly of such as barriers at all gaps shut out, or None if there are no such."""
    ways, late = Ways(plan, rules), Ways(*all_barred(plan, rules, every_gap(plan, rules)))
    resting = sorted(content for content in ways.found if content not in ways.runs)
    shut = [content for content in resting if content not in late.found]
    if not shut and chance.random() < 0.9:
        return None
    guards = []
    for _ in range(chance.randint(1, 4)):
        content = chance.choice(shut or resting or [plan.base])
        some = chance.sample(range(len(content)), chance.randint(1, len(content)))
        guard = {cell: (content[cell],) for cell in some}
        if not any(is_let(guard, other) for other in late.found - set(late.runs)) or chance.random() < 0.05:
            guards.append(guard)
    return guards
