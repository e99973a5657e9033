"""Which rules ran on the way to a content, and what was left first."""

from afterfall.contents import check_content
from afterfall.errors import InvalidNumber
from afterfall.kinds import is_index
from afterfall.restarts import (FOUND, Reach, check_many, check_rules, is_list_of_contents, leaves_only, restart_of,
                                rule_for)


def ran_surely(plan, rules, content):
    """Return the ascending list of the rules that ran in all histories to a content."""
    _check_question(plan, rules, content)
    check_many(plan, rules)
    return [index for index in range(len(rules)) if content not in Reach(plan, rules, index).numbers]


def _check_question(plan, rules, content):
    """Raise InvalidRules or InvalidContent unless the arguments are rules and a content of the plan."""
    check_rules(plan, rules)
    check_content(plan, content)


def history_without(plan, rules, content, index):
    """Return a history to a content in which a rule did not run, or None."""
    reach = _reach_without(plan, rules, content, index)
    return reach.history_to(content) if content in reach.numbers else None


def _reach_without(plan, rules, content, index):
    """Return what is reached by histories in which a rule did not run; raise the error of the first wrong argument."""
    _check_question(plan, rules, content)
    if not is_index(index, len(rules)):
        raise InvalidNumber("not the index of a rule")
    check_many(plan, rules)
    return Reach(plan, rules, index)


def ran_paper(plan, rules, content, index):
    """Return a paper that a rule ran in all histories to a content, or None."""
    reach = _reach_without(plan, rules, content, index)
    return None if content in reach.numbers else reach.contents()


def is_ran_paper(plan, rules, content, index, thing):
    """Return whether a thing is a paper that a rule ran in all histories to a content."""
    _reach_without(plan, rules, content, index)
    if not is_list_of_contents(plan, thing) or content in thing or not leaves_only(plan, thing):
        return False
    others = [left for left in thing if rule_for(rules, left) not in (None, index)]
    return all([leaves_only(restart_of(plan, rules, left), thing) for left in others])


def first_left(plan, rules, content):
    """Return the ascending list of what the first falls of the histories to a content leave."""
    _check_question(plan, rules, content)
    reach = Reach(plan, rules)
    leading = reach.leading_to([content])
    return sorted([left for left in reach.left[None][FOUND] if left in leading])
