"""The words of DOC.md, followed one by one, for plans of few pieces; and what tests take at random.

Nothing here is quick, and nothing here uses the program, except for what a plan tells of itself.
"""

import itertools

NONE = ([], [], [])


def epochs_of(plan):
    """The epoch of each piece: the number of barriers ahead of its step."""
    return [plan.steps[:step].count(None) for step, _, _ in plan.pieces]


def all_falls(plan):
    """All falls, in ascending order."""
    epochs = epochs_of(plan)
    falls = []

    def go(fall):
        falls.append(fall)
        for piece in range(len(epochs)):
            lower = [other for other in range(len(epochs)) if epochs[other] < epochs[piece]]
            if piece not in fall and set(lower) <= set(fall):
                go(fall + [piece])

    go([])
    return falls


def after(plan, fall):
    """What is found after a fall."""
    content = list(plan.base)
    for piece in fall:
        _, first, worths = plan.pieces[piece]
        for at, worth in enumerate(worths):
            content[first + at] = worth
    return tuple(content)


def is_let(pattern, content):
    return all(content[cell] in worths for cell, worths in pattern.items())


def there_of(claims):
    return set(claims[0]) | {piece for pair in claims[2] for piece in pair}


def is_fit(claims, fall):
    if not there_of(claims) <= set(fall) or set(claims[1]) & set(fall):
        return False
    return all(fall.index(piece) < fall.index(other) for piece, other in claims[2])


def ahead_of(plan, claims):
    """All tuples of two pieces, the first of which must come ahead of the second one."""
    epochs = epochs_of(plan)
    numbers = range(len(epochs))
    pairs = {(p, o) for p in numbers for o in numbers if epochs[p] < epochs[o]} | set(claims[2])
    for middle in numbers:
        ahead = [p for p in numbers if (p, middle) in pairs]
        behind = [p for p in numbers if (middle, p) in pairs]
        pairs |= {(p, o) for p in ahead for o in behind}
    return pairs


def is_contradiction(plan, claims):
    if there_of(claims) & set(claims[1]):
        return True
    return any(piece == other for piece, other in ahead_of(plan, claims))


def such_falls(plan, pattern, claims):
    """All falls that fit claims and after which a pattern is found, in ascending order."""
    return [fall for fall in all_falls(plan) if is_fit(claims, fall) and is_let(pattern, after(plan, fall))]


def contents_of(plan, pattern=None, claims=NONE):
    """What is found after such falls, in ascending order."""
    return sorted({after(plan, fall) for fall in such_falls(plan, pattern or {}, claims)})


def is_whole(thing):
    return isinstance(thing, int) and not isinstance(thing, bool)


def is_paper(plan, pattern, claims, thing):
    """Whether a thing is a paper, condition by condition."""
    if not isinstance(thing, list) or len(thing) != plan.steps.count(None) + 1:
        return False
    pairs = ahead_of(plan, claims)
    return all(is_entry(plan, pattern, claims, pairs, epoch, entry) for epoch, entry in enumerate(thing))


def is_entry(plan, pattern, claims, pairs, epoch, entry):
    if not isinstance(entry, tuple) or len(entry) != 2:
        return False
    epochs = epochs_of(plan)
    word, told = entry
    if word in ("there", "gone"):
        if not is_whole(told) or not 0 <= told < len(epochs):
            return False
        if word == "there":
            return epochs[told] > epoch and told in there_of(claims)
        return epochs[told] < epoch and told in claims[1]
    return word == "stuck" and isinstance(told, dict) and is_stuck(plan, pattern, claims, pairs, epoch, told)


def is_stuck(plan, pattern, claims, pairs, epoch, spoils):
    epochs = epochs_of(plan)
    able = [p for p in range(len(epochs)) if epochs[p] <= epoch and p not in claims[1]]
    for piece, cell in spoils.items():
        if not is_whole(piece) or not is_whole(cell) or cell not in pattern:
            return False
        if piece != -1 and piece not in able:
            return False
        worth = plan.base[cell] if piece == -1 else worth_in(plan, piece, cell)
        if worth is None or worth in pattern[cell]:
            return False
    sure = [p for p in spoils if p != -1 and (epochs[p] < epoch or p in there_of(claims))]
    for piece, cell in spoils.items():
        for other in able:
            if other == piece or worth_in(plan, other, cell) is None or other in spoils:
                continue
            if (other, piece) not in pairs and not any((other, one) in pairs for one in sure):
                return False
    return -1 in spoils or bool(sure)


def worth_in(plan, piece, cell):
    """The worth that a piece writes into a cell, or None."""
    _, first, worths = plan.pieces[piece]
    return worths[cell - first] if first <= cell < first + len(worths) else None


def gaps_of(plan):
    steps = plan.steps
    return [at for at in range(1, len(steps)) if steps[at] is not None and steps[at - 1] is not None]


def barred(plan, chosen):
    """The plan with a barrier ahead of each of these steps."""
    steps = [part for at, step in enumerate(plan.steps) for part in ([None, step] if at in chosen else [step])]
    return type(plan)(plan.base, plan.width, steps)


def is_shut_by(plan, fall, gap):
    """Whether a piece from the gap on is in, and one ahead of the gap is not, or stands behind it."""
    lower = [piece for piece in range(len(plan.pieces)) if plan.pieces[piece][0] < gap]
    return any(piece not in lower and not set(lower) <= set(fall[:at]) for at, piece in enumerate(fall))


def shutters_by(plan, fall):
    return [gap for gap in gaps_of(plan) if is_shut_by(plan, fall, gap)]


def lists_of(things):
    """All lists of some of these things, each at most once, in their order."""
    return [list(some) for many in range(len(things) + 1) for some in itertools.combinations(things, many)]


def is_shut_out(plan, guards):
    """Whether no guard is found after any fall."""
    found = {after(plan, fall) for fall in all_falls(plan)}
    return not any(is_let(guard, content) for guard in guards for content in found)


def is_tree(plan, guards, prices, number, thing, chosen=()):
    """Whether a thing is a tree on the way to which these gaps got a barrier, condition by condition."""
    spent = sum(prices[gap] for gap in chosen) >= number
    if not isinstance(thing, tuple) or not thing or not isinstance(thing[0], str):
        return False
    if spent or len(thing) != 4:
        return spent and len(thing) == 1 and thing[0] == "spent"
    word, guard, fall, trees = thing
    if word != "found" or not is_whole(guard) or not 0 <= guard < len(guards):
        return False
    if not isinstance(fall, list) or not all(is_whole(piece) for piece in fall):
        return False
    if fall not in all_falls(barred(plan, chosen)) or not is_let(guards[guard], after(plan, fall)):
        return False
    gaps = [gap for gap in shutters_by(plan, fall) if gap not in chosen]
    if not isinstance(trees, list) or len(trees) != len(gaps):
        return False
    return all(is_tree(plan, guards, prices, number, tree, (*chosen, gap)) for gap, tree in zip(gaps, trees))


def restart_for(plan, rules, content):
    for pattern, steps in rules:
        if is_let(pattern, content):
            return type(plan)(content, plan.width, steps)
    return None


def whole_contents(plan):
    """What is found after falls with all pieces."""
    return {after(plan, fall) for fall in all_falls(plan) if len(fall) == len(plan.pieces)}


def reached_by(plan, rules):
    """A dict from all contents that are found after histories to their restarts."""
    restarts, waiting = {}, contents_of(plan)
    while waiting:
        content = waiting.pop()
        if content not in restarts:
            restarts[content] = restart_for(plan, rules, content)
            if restarts[content] is not None:
                waiting.extend(contents_of(restarts[content]))
    return restarts


def found_at_the_end(plan, rules, thing):
    """What is found after the last fall of a history, or None if the thing is none."""
    if not isinstance(thing, list) or not thing:
        return None
    runs, content = plan, None
    for fall in thing:
        if runs is None or not isinstance(fall, list) or not all(is_whole(piece) for piece in fall):
            return None
        if fall not in all_falls(runs):
            return None
        content = after(runs, fall)
        runs = restart_for(plan, rules, content)
    return content


def is_content_of(plan, thing):
    return (isinstance(thing, tuple) and len(thing) == len(plan.base)
            and all(is_whole(worth) and 0 <= worth <= 7 for worth in thing))


def is_closed_list(plan, rules, guards, thing):
    """Whether a thing is an ascending list of contents that no fall leads out of, and none at rest is bad."""
    if not isinstance(thing, list) or len(thing) > 99 or not all(is_content_of(plan, part) for part in thing):
        return False
    if any(one >= two for one, two in zip(thing, thing[1:])) or not set(contents_of(plan)) <= set(thing):
        return False
    for content in thing:
        runs = restart_for(plan, rules, content)
        if runs is None and any(is_let(guard, content) for guard in guards):
            return False
        if runs is not None and not set(contents_of(runs)) <= set(thing):
            return False
    return True


def is_rest_dict(plan, rules, thing):
    """Whether a thing is a dict from what is reached and not at rest to integers that get less."""
    going = {content: runs for content, runs in reached_by(plan, rules).items() if runs is not None}
    if not isinstance(thing, dict) or not all(is_content_of(plan, key) for key in thing) or set(thing) != set(going):
        return False
    if not all(is_whole(number) and number >= 0 for number in thing.values()):
        return False
    return all(other not in going or thing[other] < thing[content]
               for content, runs in going.items() for other in whole_contents(runs))


def is_circle_list(plan, rules, thing):
    """Whether a thing is a list of contents, each left by a restart of the one ahead, that ends as it begins."""
    going = {content: runs for content, runs in reached_by(plan, rules).items() if runs is not None}
    if not isinstance(thing, list) or len(thing) < 2 or not all(is_content_of(plan, part) for part in thing):
        return False
    if thing[0] != thing[-1] or len(set(thing[1:])) != len(thing[1:]) or not set(thing) <= set(going):
        return False
    return all(two in whole_contents(going[one]) for one, two in zip(thing, thing[1:]))


def any_plan(chance, plan_class, most=5):
    """A plan of at most as many pieces, with barriers, also several side by side."""
    while True:
        cells, worths = chance.randint(1, 4), chance.randint(2, 4)
        steps = []
        for _ in range(chance.randint(0, 5)):
            first = chance.randrange(cells)
            many = chance.randint(1, cells - first)
            write = (first, tuple(chance.randrange(worths) for _ in range(many)))
            steps.append(None if chance.random() < 0.3 else write)
        base = tuple(chance.randrange(worths) for _ in range(cells))
        width = chance.randint(1, 3)
        if sum(1 + sum(c % width == 0 for c in range(s[0] + 1, s[0] + len(s[1]))) for s in steps if s) <= most:
            return plan_class(base, width, steps)


def any_pattern(chance, cells):
    pattern = {}
    for cell in chance.sample(range(cells), chance.randint(0, cells)):
        pattern[cell] = tuple(sorted(chance.sample(range(4), chance.choice((1, 1, 2, 3)))))
    return pattern


def any_claims(chance, plan):
    """Claims of a plan, not in contradiction."""
    numbers = range(len(plan.pieces))
    while True:
        there = [piece for piece in numbers if chance.random() < 0.15]
        gone = [piece for piece in numbers if chance.random() < 0.1]
        pairs = [(p, o) for p in numbers for o in numbers if p != o and chance.random() < 0.07]
        claims = (there, gone, pairs)
        if not is_contradiction(plan, claims):
            return claims


def any_guards(chance, cells, most=4):
    return [any_pattern(chance, cells) for _ in range(chance.randint(0, most))]


def any_line(chance, plan_class):
    """A plan of three to five pieces with one barrier at most, and guards that barriers mostly shut out."""
    cells = chance.randint(2, 4)
    steps = [(chance.randrange(cells), (chance.randint(1, 2),)) for _ in range(chance.randint(3, 4))]
    if chance.random() < 0.3:
        steps[0] = (0, (chance.randint(1, 2),) * 2)
    if chance.random() < 0.3:
        steps.insert(chance.randint(1, 3), None)
    plan = plan_class((0,) * cells, chance.randint(1, 2), steps)
    found, late = contents_of(plan), contents_of(barred(plan, gaps_of(plan)))
    guards = []
    for _ in range(chance.randint(1, 3)):
        content = chance.choice(found)
        cell_list = sorted(chance.sample(range(cells), chance.randint(min(2, cells), cells)))
        guard = {cell: (content[cell],) for cell in cell_list}
        if not any(is_let(guard, other) for other in late) or chance.random() < 0.1:
            guards.append(guard)
    return plan, guards


def any_rules(chance, plan, most=3, pieces=3):
    """Rules of a plan, each with at most as many pieces."""
    rules = []
    for _ in range(chance.randint(0, most)):
        made = None
        while made is None or not made.steps or len(made.pieces) > pieces:
            steps = []
            for _ in range(chance.randint(1, 3)):
                first = chance.randrange(len(plan.base))
                many = chance.randint(1, min(2, len(plan.base) - first))
                write = (first, tuple(chance.randrange(3) for _ in range(many)))
                steps.append(None if chance.random() < 0.3 else write)
            made = type(plan)(plan.base, plan.width, steps)
        pattern = any_pattern(chance, len(plan.base)) or {0: (chance.randrange(3),)}
        rules.append((pattern, made.steps))
    return rules


def inner_lists(thing):
    """All lists and dicts within a thing, as often as they stand in it, and the thing itself if it is one."""
    inner = [thing] if isinstance(thing, (list, dict)) else []
    if isinstance(thing, dict):
        thing = list(thing.values())
    if isinstance(thing, (list, tuple)):
        for part in thing:
            inner.extend(inner_lists(part))
    return inner


def large_plan(chance, plan_class, cells, barriers, worths=3, longest=6):
    """A plan of forty steps, each a barrier by a chance, and a write, of one piece, otherwise."""
    steps = []
    while len(steps) < 40:
        first = chance.randrange(cells)
        many = chance.randint(1, min(cells - first, longest))
        write = (first, tuple(chance.randrange(worths) for _ in range(many)))
        steps.append(None if chance.random() < barriers else write)
    return plan_class((0,) * cells, 24, steps)


def nest(thing, levels):
    """A thing within lists and tuples, so many levels deep."""
    for level in range(levels):
        thing = [thing] if level % 2 else (thing,)
    return thing


# Objects of the kinds that [2] calls "any object"; nothing in here is a content, a pattern for
# one cell or more, a step, a number, a list of numbers, claims, guards, rules or a paper of any plan.
ODD_THINGS = [
    True, False, "", "a", "0", "plan 1", "\t", "\n", -1, 10 ** 40 - 1, -10 ** 40 + 1,
    (None,), [None], (True,), [True], ("a",), ["a"], ((),), [()], [[]], ([],), (-1,), [-1], (10 ** 39,), [10 ** 39],
    {"": 0}, {"a": (0,)}, {(): ()}, {(0, ("a", True)): [0]}, {-1: (0,)}, {10 ** 39: (0,)}, {0: []}, {0: None},
    {0: ()}, {0: 0}, {0: (True,)}, {0: {}}, {True: (0,)},
    [0, True], (0, True), (0, "a"), (0, [0]), ("a", (0,)), (True, (0,)), (0, (True,)), (0, (0, True)),
    ([], []), ([], [], (), []), [[], [], []], ([], [], ()), ([], (), []), ((), [], []), ([True], [], []),
    ("stuck", {}), [("stuck",)], [("there", True)], [("gone", True)], [("gone", "a")], [["stuck", {}]],
    nest(0, 19), nest([], 19), nest({"a": True}, 18), [0] * 4999, (0,) * 4999, [()] * 2500, [None] * 4999,
    {number: (0,) for number in range(2400)}, "x" * 5000,
]
