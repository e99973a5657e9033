"""A board of stores by name, with marks, batches and a log."""

from afterfall.errors import (DuplicateName, FallError, InvalidCommand, InvalidName, InvalidNumber, UnknownMark,
                              UnknownName)
from afterfall.kinds import is_integer
from afterfall.stores import begun
from afterfall.texts import format_plan, parse_plan

LETTERS = "abcdefghijklmnopqrstuvwxyz"
MOST_LETTERS = 8
# The commands that can stand in a batch, each with the number of its arguments.
ARGUMENTS = {"create": 2, "put": 3, "bar": 1, "land": 2, "crash": 1, "play": 2, "drop": 1, "mark": 1, "back": 1}


def _is_name(thing):
    """Return whether a thing is a name."""
    if not isinstance(thing, str) or not 1 <= len(thing) <= MOST_LETTERS:
        return False
    return all([sign in LETTERS for sign in thing])


def _check_new(name, taken):
    """Raise InvalidName or DuplicateName unless this is a name that is not taken."""
    if not _is_name(name):
        raise InvalidName("not one to eight lowercase letters")
    if name in taken:
        raise DuplicateName("the name is taken")


def _state_of(board, name):
    """Return the state of the store with a name."""
    if not _is_name(name) or name not in board._stores:
        raise UnknownName("no store has this name")
    return board._stores[name]


def _create(board, name, text):
    _check_new(name, board._stores)
    board._stores[name] = begun(parse_plan(text))


def _put(board, name, first, worths):
    board._stores[name] = _state_of(board, name).behind_step((first, worths))


def _bar(board, name):
    board._stores[name] = _state_of(board, name).behind_step(None)


def _land(board, name, piece):
    board._stores[name] = _state_of(board, name).behind_arrival(piece)


def _crash(board, name):
    board._stores[name] = _state_of(board, name).behind_loss()


def _play(board, name, count):
    state = _state_of(board, name)
    if not is_integer(count) or not 1 <= count <= len(state.active.pieces) - len(state.arrived):
        raise InvalidNumber("not an integer from 1 to the number of pieces that have not come")
    for _ in range(count):
        state = state.behind_arrival(state.next_pieces()[0])
    board._stores[name] = state


def _drop(board, name):
    _state_of(board, name)
    del board._stores[name]


def _mark(board, label):
    _check_new(label, board._marks)
    board._marks[label] = dict(board._stores)


def _back(board, label):
    if not _is_name(label) or label not in board._marks:
        raise UnknownMark("no mark has this label")
    board._stores = dict(board._marks[label])


def _batch(board, commands):
    """Execute commands, or none of them, and return the list of their results."""
    if not isinstance(commands, list):
        raise InvalidCommand("not a list of commands")
    stores, marks, results = dict(board._stores), dict(board._marks), []
    try:
        for item in commands:
            command, arguments = _command_in(item)
            results.append(execute(board, command, arguments))
    except FallError:
        board._stores, board._marks = stores, marks
        raise
    return results


def _command_in(item):
    """Return the name of the command that an item of a batch is, and its arguments."""
    if not isinstance(item, tuple) or not item or not isinstance(item[0], str):
        raise InvalidCommand("not a tuple of the name of a command and its arguments")
    if item[0] not in ARGUMENTS or ARGUMENTS[item[0]] != len(item) - 1:
        raise InvalidCommand("not a command of a batch, or not as many arguments as it has")
    return item[0], item[1:]


ACTIONS = {"create": _create, "put": _put, "bar": _bar, "land": _land, "crash": _crash, "play": _play, "drop": _drop,
           "mark": _mark, "back": _back, "batch": _batch}


def execute(board, command, arguments):
    """Carry a command out and write it into the log of the board."""
    action = ACTIONS[command]
    board._log.append(command)
    try:
        result = action(board, *arguments)
    except FallError:
        board._log.append("failed")
        raise
    board._log.append("done")
    return result


class Board:
    """Stores by name; marks record all of them."""

    def __init__(self):
        self._stores = {}
        self._marks = {}
        self._log = []

    def create(self, name, text):
        """Add a store whose plan has a text."""
        execute(self, "create", (name, text))

    def put(self, name, first, worths):
        """Add a write to the plan of a store."""
        execute(self, "put", (name, first, worths))

    def bar(self, name):
        """Add a barrier to the plan of a store."""
        execute(self, "bar", (name,))

    def land(self, name, piece):
        """Let a piece come to a store."""
        execute(self, "land", (name, piece))

    def crash(self, name):
        """Lose all that has not come to a store."""
        execute(self, "crash", (name,))

    def play(self, name, count):
        """Let a number of pieces come to a store, each time the least one that can."""
        execute(self, "play", (name, count))

    def drop(self, name):
        """Remove a store."""
        execute(self, "drop", (name,))

    def mark(self, label):
        """Record all stores under a label."""
        execute(self, "mark", (label,))

    def back(self, label):
        """Restore the stores that a mark recorded."""
        execute(self, "back", (label,))

    def batch(self, commands):
        """Execute a list of commands, or none of them, and return the list of their results."""
        return execute(self, "batch", (commands,))

    @property
    def names(self):
        """The ascending list of the names of the stores."""
        return sorted(self._stores)

    @property
    def log(self):
        """The list of what was executed: the name of each command, and whether it was done or failed."""
        return list(self._log)

    def content_of(self, name):
        """Return what the cells of a store hold."""
        return _state_of(self, name).held

    def came_of(self, name):
        """Return the list of the pieces that came to a store, in order."""
        return list(_state_of(self, name).arrived)

    def ready_of(self, name):
        """Return the ascending list of the pieces that can come next to a store."""
        return _state_of(self, name).next_pieces()

    def text_of(self, name):
        """Return the text of the plan of a store."""
        return format_plan(_state_of(self, name).active)

    def holds(self, name, pattern):
        """Return whether a pattern can be found after a fall that begins with what came to a store."""
        return _state_of(self, name).may_leave(pattern)

    def copy(self):
        """Return a board of its own with the same stores and marks, and an empty log."""
        other = Board()
        other._stores = dict(self._stores)
        other._marks = dict(self._marks)
        return other
