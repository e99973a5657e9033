"""Questions about any object that several files ask."""


def is_integer(thing):
    """Return whether a thing is an integer; a bool is none."""
    return isinstance(thing, int) and not isinstance(thing, bool)


def is_index(thing, many):
    """Return whether a thing is one of the integers from 0 up to, but not including, `many`."""
    return is_integer(thing) and 0 <= thing < many


def is_ascending(things):
    """Return whether things of one kind, in a list or a tuple, ascend and are different."""
    return all([things[at] < things[at + 1] for at in range(len(things) - 1)])
