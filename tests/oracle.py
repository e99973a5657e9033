"""The words of DOC.md, followed one by one, for plans of few pieces; and what tests take at random.

Nothing here is quick, and nothing here uses the program, except for what a plan tells of itself.
"""

NONE = ([], [], [])


def epochs_of(plan):
    """The epoch of each piece: the number of barriers ahead of its step."""
    return [plan.steps[:step].count(None) for step, _, _ in plan.pieces]


def all_falls(plan):
    """All falls, in ascending order."""
    epochs = epochs_of(plan)
    falls = []

    def go(fall):
        falls.append(fall)
        for piece in range(len(epochs)):
            lower = [other for other in range(len(epochs)) if epochs[other] < epochs[piece]]
            if piece not in fall and set(lower) <= set(fall):
                go(fall + [piece])

    go([])
    return falls


def after(plan, fall):
    """What is found after a fall."""
    content = list(plan.base)
    for piece in fall:
        _, first, worths = plan.pieces[piece]
        for at, worth in enumerate(worths):
            content[first + at] = worth
    return tuple(content)


def is_let(pattern, content):
    return all(content[cell] in worths for cell, worths in pattern.items())


def there_of(claims):
    return set(claims[0]) | {piece for pair in claims[2] for piece in pair}


def is_fit(claims, fall):
    if not there_of(claims) <= set(fall) or set(claims[1]) & set(fall):
        return False
    return all(fall.index(piece) < fall.index(other) for piece, other in claims[2])


def ahead_of(plan, claims):
    """All tuples of two pieces, the first of which must come ahead of the second one."""
    epochs = epochs_of(plan)
    numbers = range(len(epochs))
    pairs = {(p, o) for p in numbers for o in numbers if epochs[p] < epochs[o]} | set(claims[2])
    for middle in numbers:
        ahead = [p for p in numbers if (p, middle) in pairs]
        behind = [p for p in numbers if (middle, p) in pairs]
        pairs |= {(p, o) for p in ahead for o in behind}
    return pairs


def is_contradiction(plan, claims):
    if there_of(claims) & set(claims[1]):
        return True
    return any(piece == other for piece, other in ahead_of(plan, claims))


def such_falls(plan, pattern, claims):
    """All falls that fit claims and after which a pattern is found, in ascending order."""
    return [fall for fall in all_falls(plan) if is_fit(claims, fall) and is_let(pattern, after(plan, fall))]


def contents_of(plan, pattern=None, claims=NONE):
    """What is found after such falls, in ascending order."""
    return sorted({after(plan, fall) for fall in such_falls(plan, pattern or {}, claims)})


def is_whole(thing):
    return isinstance(thing, int) and not isinstance(thing, bool)


def is_paper(plan, pattern, claims, thing):
    """Whether a thing is a paper, condition by condition."""
    if not isinstance(thing, list) or len(thing) != plan.steps.count(None) + 1:
        return False
    pairs = ahead_of(plan, claims)
    return all(is_entry(plan, pattern, claims, pairs, epoch, entry) for epoch, entry in enumerate(thing))


def is_entry(plan, pattern, claims, pairs, epoch, entry):
    if not isinstance(entry, tuple) or len(entry) != 2:
        return False
    epochs = epochs_of(plan)
    word, told = entry
    if word in ("there", "gone"):
        if not is_whole(told) or not 0 <= told < len(epochs):
            return False
        if word == "there":
            return epochs[told] > epoch and told in there_of(claims)
        return epochs[told] < epoch and told in claims[1]
    return word == "stuck" and isinstance(told, dict) and is_stuck(plan, pattern, claims, pairs, epoch, told)


def is_stuck(plan, pattern, claims, pairs, epoch, spoils):
    epochs = epochs_of(plan)
    able = [p for p in range(len(epochs)) if epochs[p] <= epoch and p not in claims[1]]
    for piece, cell in spoils.items():
        if not is_whole(piece) or not is_whole(cell) or cell not in pattern:
            return False
        if piece != -1 and piece not in able:
            return False
        worth = plan.base[cell] if piece == -1 else worth_in(plan, piece, cell)
        if worth is None or worth in pattern[cell]:
            return False
    sure = [p for p in spoils if p != -1 and (epochs[p] < epoch or p in there_of(claims))]
    for piece, cell in spoils.items():
        for other in able:
            if other == piece or worth_in(plan, other, cell) is None or other in spoils:
                continue
            if (other, piece) not in pairs and not any((other, one) in pairs for one in sure):
                return False
    return -1 in spoils or bool(sure)


def worth_in(plan, piece, cell):
    """The worth that a piece writes into a cell, or None."""
    _, first, worths = plan.pieces[piece]
    return worths[cell - first] if first <= cell < first + len(worths) else None


def any_plan(chance, plan_class, most=5):
    """A plan of at most as many pieces, with barriers, also several side by side."""
    while True:
        cells, worths = chance.randint(1, 4), chance.randint(2, 4)
        steps = []
        for _ in range(chance.randint(0, 5)):
            first = chance.randrange(cells)
            many = chance.randint(1, cells - first)
            write = (first, tuple(chance.randrange(worths) for _ in range(many)))
            steps.append(None if chance.random() < 0.3 else write)
        base = tuple(chance.randrange(worths) for _ in range(cells))
        width = chance.randint(1, 3)
        if sum(1 + sum(c % width == 0 for c in range(s[0] + 1, s[0] + len(s[1]))) for s in steps if s) <= most:
            return plan_class(base, width, steps)


def any_pattern(chance, cells):
    pattern = {}
    for cell in chance.sample(range(cells), chance.randint(0, cells)):
        pattern[cell] = tuple(sorted(chance.sample(range(4), chance.choice((1, 1, 2, 3)))))
    return pattern


def any_claims(chance, plan):
    """Claims of a plan, not in contradiction."""
    numbers = range(len(plan.pieces))
    while True:
        there = [piece for piece in numbers if chance.random() < 0.15]
        gone = [piece for piece in numbers if chance.random() < 0.1]
        pairs = [(p, o) for p in numbers for o in numbers if p != o and chance.random() < 0.07]
        claims = (there, gone, pairs)
        if not is_contradiction(plan, claims):
            return claims


def any_guards(chance, cells, most=4):
    return [any_pattern(chance, cells) for _ in range(chance.randint(0, most))]


def large_plan(chance, plan_class, cells, barriers, worths=3, longest=6):
    """A plan of forty steps, each a barrier by a chance, and a write, of one piece, otherwise."""
    steps = []
    while len(steps) < 40:
        first = chance.randrange(cells)
        many = chance.randint(1, min(cells - first, longest))
        write = (first, tuple(chance.randrange(worths) for _ in range(many)))
        steps.append(None if chance.random() < barriers else write)
    return plan_class((0,) * cells, 24, steps)


def nest(thing, levels):
    """A thing within lists and tuples, so many levels deep."""
    for level in range(levels):
        thing = [thing] if level % 2 else (thing,)
    return thing


# Objects of the kinds that [2] calls "any object"; nothing in here is a content, a pattern for
# one cell or more, a step, a number, a list of numbers, claims, guards, rules or a paper of any plan.
ODD_THINGS = [
    True, False, "", "a", "0", "plan 1", "\t", "\n", -1, 10 ** 40 - 1, -10 ** 40 + 1,
    (None,), [None], (True,), [True], ("a",), ["a"], ((),), [()], [[]], ([],), (-1,), [-1], (10 ** 39,), [10 ** 39],
    {"": 0}, {"a": (0,)}, {(): ()}, {(0, ("a", True)): [0]}, {-1: (0,)}, {10 ** 39: (0,)}, {0: []}, {0: None},
    {0: ()}, {0: 0}, {0: (True,)}, {0: {}}, {True: (0,)},
    [0, True], (0, True), (0, "a"), (0, [0]), ("a", (0,)), (True, (0,)), (0, (True,)), (0, (0, True)),
    ([], []), ([], [], (), []), [[], [], []], ([], [], ()), ([], (), []), ((), [], []), ([True], [], []),
    ("stuck", {}), [("stuck",)], [("there", True)], [("gone", True)], [("gone", "a")], [["stuck", {}]],
    nest(0, 19), nest([], 19), nest({"a": True}, 18), [0] * 4999, (0,) * 4999, [()] * 2500, [None] * 4999,
    {number: (0,) for number in range(2400)}, "x" * 5000,
]
