"""What can be found where the first fall fits claims, and what surely came in it."""

from afterfall.cells import agrees
from afterfall.claims import check_claims
from afterfall.errors import Shut
from afterfall.falls import check_pattern
from afterfall.restarts import (FOUND, Reach, check_many, check_rules, fall_to, is_list_of_contents, leaves_only,
                                restart_of)


def found_after(plan, rules, pattern, claims):
    """Return a history whose first fall fits claims and after which a pattern is found, or None."""
    reach = _reach_behind(plan, rules, pattern, claims)
    found = [content for content in reach.numbers if agrees(pattern, content)]
    return reach.history_to(found[0]) if found else None


def _reach_behind(plan, rules, pattern, claims):
    """Return what histories whose first fall fits claims lead to; raise the error of the first wrong argument."""
    check_rules(plan, rules)
    check_pattern(plan, pattern)
    check_claims(plan, claims)
    check_many(plan, rules)
    return Reach(plan, rules, claims=claims)


def after_paper(plan, rules, pattern, claims):
    """Return a paper that after no history whose first fall fits claims a pattern is found, or None."""
    reach = _reach_behind(plan, rules, pattern, claims)
    if any([agrees(pattern, content) for content in reach.numbers]):
        return None
    return reach.contents()


def is_after_paper(plan, rules, pattern, claims, thing):
    """Return whether a thing is a paper that after no history whose first fall fits claims a pattern is found."""
    reach = _reach_behind(plan, rules, pattern, claims)
    if not is_list_of_contents(plan, thing) or any([agrees(pattern, content) for content in thing]):
        return False
    if not all([content in thing for content in reach.left[None][FOUND]]):
        return False
    running = [restart_of(plan, rules, content) for content in thing]
    return all([leaves_only(runs, thing) for runs in running if runs is not None])


def first_came(plan, rules, pattern):
    """Return the ascending list of the pieces in the first falls of all histories after which a pattern is found."""
    check_rules(plan, rules)
    check_pattern(plan, pattern)
    reach = Reach(plan, rules)
    leading = reach.leading_to([content for content in reach.numbers if agrees(pattern, content)])
    firsts = [content for content in reach.left[None][FOUND] if content in leading]
    if not firsts:
        raise Shut("after no history the pattern is found")
    sure = list(range(len(plan.pieces)))
    for content in firsts:
        sure = [piece for piece in sure if fall_to(plan, content, ([], [piece], [])) is None]
    return sure
