"""Bills: why barriers that let no guard be found cost at least a number."""

from afterfall.barriers import Harms, check_prices, shutters_of
from afterfall.errors import InvalidNumber, copied
from afterfall.guards import check_guards, does_harm
from afterfall.kinds import is_integer


def bill(plan, guards, prices, number):
    """Return a tree that shows that barriers cost at least a number, or None if cheaper ones are enough."""
    _check_order(plan, guards, prices, number)
    return tree_behind(Harms(plan, guards), "found", (prices, number), [])


def _check_order(plan, guards, prices, number):
    """Raise the error of the first argument that is wrong."""
    check_guards(plan, guards)
    check_prices(plan, prices)
    if not is_integer(number) or number < 0:
        raise InvalidNumber("not an integer from 0 on")


def is_spent(cost, chosen):
    """Return whether the prices of gaps add up to at least the number of a cost, a tuple (prices, number)."""
    prices, number = cost
    return sum([prices[gap] for gap in chosen]) >= number


def tree_behind(harms, word, cost, chosen):
    """Return a tree for the way on which gaps got a barrier, or None if some cheaper ones are enough."""
    if is_spent(cost, chosen):
        return ("spent",)
    told = harms.left_with(chosen)
    if told is None:
        return None
    shutters, guard, course = told
    trees = []
    for gap in shutters:
        tree = tree_behind(harms, word, cost, chosen + [gap])
        if tree is None:
            return None
        trees.append(tree)
    return (word, guard, copied(course), trees)


def is_bill(plan, guards, prices, number, thing):
    """Return whether a thing is a tree that shows that barriers cost at least a number."""
    _check_order(plan, guards, prices, number)
    return _is_tree((plan, guards, prices, number), thing, [])


def _is_tree(order, thing, chosen):
    """Return whether a thing is a tree for the way on which gaps got a barrier."""
    plan, guards, prices, number = order
    if is_spent((prices, number), chosen):
        return thing == ("spent",)
    if not isinstance(thing, tuple) or len(thing) != 4:
        return False
    word, guard, fall, trees = thing
    if word != "found" or not does_harm(plan, guards, guard, fall) or not isinstance(trees, list):
        return False
    shutters = shutters_of(plan, fall)
    # With barriers at the gaps on the way it is a fall just if none of these shuts it.
    if any([gap in chosen for gap in shutters]) or len(trees) != len(shutters):
        return False
    for gap, tree in zip(shutters, trees):
        if not _is_tree(order, tree, chosen + [gap]):
            return False
    return True
