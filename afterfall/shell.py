"""A shell: lines of words that are carried out on a board."""

from afterfall.board import ACTIONS, Board, execute
from afterfall.cells import are_let
from afterfall.errors import InvalidLine
from afterfall.texts import number_in

WORTHS = ("0", "1", "2", "3", "4", "5", "6", "7")


def _name_alone(words):
    return tuple(words) if len(words) == 1 else None


def _name_and_text(words):
    if len(words) != 2:
        return None
    name, text = words
    return (name, text.replace("/", "\n").replace(",", " "))


def _name_and_number(words):
    if len(words) != 2 or number_in(words[1]) < 0:
        return None
    return (words[0], number_in(words[1]))


def _name_and_write(words):
    if len(words) < 3 or number_in(words[1]) < 0 or not _are_worths(words[2:]):
        return None
    return (words[0], number_in(words[1]), tuple([int(word) for word in words[2:]]))


def _name_and_pattern(words):
    if len(words) < 2:
        return None
    pattern = {}
    for word in words[1:]:
        figures, _, told = word.partition(":")
        cell, worths = number_in(figures), _let_in(told)
        if cell < 0 or cell in pattern or not are_let(worths):
            return None
        pattern[cell] = worths
    return (words[0], pattern)


def _let_in(text):
    """Return the worths that are joined in a text, () if something else is."""
    words = text.split(".")
    return tuple([int(word) for word in words]) if _are_worths(words) else ()


def _are_worths(words):
    return all([word in WORTHS for word in words])


def _nothing(words):
    return None if words else ()


# For each first word what the words behind it say: the arguments, or None if they are no such words.
FORMS = {"create": _name_and_text, "put": _name_and_write, "bar": _name_alone, "land": _name_and_number,
         "crash": _name_alone, "play": _name_and_number, "drop": _name_alone, "mark": _name_alone,
         "back": _name_alone, "content": _name_alone, "came": _name_alone, "ready": _name_alone,
         "holds": _name_and_pattern, "text": _name_alone, "names": _nothing}


def _content(board, name):
    return _joined(board.content_of(name), "")


def _came(board, name):
    return _joined(board.came_of(name), "none")


def _ready(board, name):
    return _joined(board.ready_of(name), "none")


def _holds(board, name, pattern):
    return "yes" if board.holds(name, pattern) else "no"


def _text(board, name):
    return board.text_of(name).replace("\n", "/").replace(" ", ",")


def _names(board):
    return _joined(board.names, "-")


def _joined(things, none):
    """Return things with spaces between them, or a word for none."""
    return " ".join([str(thing) for thing in things]) if things else none


ANSWERS = {"content": _content, "came": _came, "ready": _ready, "holds": _holds, "text": _text, "names": _names}


def _read(line):
    """Return the first word of a line and the arguments behind it."""
    if not isinstance(line, str) or "\n" in line:
        raise InvalidLine("not a line")
    word, *others = line.split(" ")
    if word not in FORMS or "" in others:
        raise InvalidLine("no line begins with this word, or a word is empty")
    form = FORMS[word]
    arguments = form(others)
    if arguments is None:
        raise InvalidLine("the words are not those that this line has")
    return word, arguments


class Shell:
    """A board of its own, and lines that are carried out on it."""

    def __init__(self):
        self._board = Board()

    def run(self, line):
        """Carry a line out and return what it says."""
        word, arguments = _read(line)
        if word in ACTIONS:
            execute(self._board, word, arguments)
            return "ok"
        answer = ANSWERS[word]
        return answer(self._board, *arguments)
