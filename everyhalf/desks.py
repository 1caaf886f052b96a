"""Desks: told line by line, a desk goes on from state to state, and answers what is asked of its state."""

from everyhalf.checks import is_within
from everyhalf.errors import BadLine, BadText, HalfError, Nothing, TooMany
from everyhalf.homes import home_of, low_state
from everyhalf.loops import tree_at
from everyhalf.pictures import lamps_of
from everyhalf.posts import far_next, post_of
from everyhalf.reasons import why_next
from everyhalf.rounds import next_state, state_before
from everyhalf.states import is_high, is_state, lamps_apart
from everyhalf.texts import integer_in, items_of
from everyhalf.words import is_word

MOST_LINES = 100
MOST_STEPS_TOLD = 1000
# The lines that a desk without a state can be told.
FIRST = ("state", "word")


def _is_state_told(item):
    return is_state(item)


def _is_word_told(item):
    return is_word(item)


def _is_steps_told(item):
    return is_within(integer_in(item), 1, MOST_STEPS_TOLD)


def _state_told(state, item):
    return item


def _word_told(state, item):
    return low_state(item, 0)


def _next_told(state, item):
    return far_next(state, int(item))


def _back_told(state, item):
    return far_next(state, -int(item))


def _who(state):
    return str(lamps_apart(state, next_state(state))[0])


def _whence(state):
    return str(lamps_apart(state_before(state), state)[0])


def _why(state):
    tie = why_next(state)
    return tie.kind + " " + tie.by


def _home(state):
    word, shift = home_of(state)
    return f"{word} {shift} " + ("high" if is_high(state) else "low")


def _post(state):
    word, offset = post_of(state)
    return f"{word} {offset}"


def _tree(state):
    return tree_at(state)


def _lamps(state):
    return lamps_of([state])[0]


# By the first item of a line that is kept: whether an item can stand behind it, and the state behind the line.
CAN_STAND = {"state": _is_state_told, "word": _is_word_told, "next": _is_steps_told, "back": _is_steps_told}
KEPT = {"state": _state_told, "word": _word_told, "next": _next_told, "back": _back_told}
# By the one item of a line that only asks: the answer.
ASKED = {"who": _who, "whence": _whence, "why": _why, "home": _home, "post": _post, "tree": _tree, "lamps": _lamps}


class Desk:
    """A state, or none yet, and the lines by which it came; _ahead has the state ahead of each of them."""

    def __init__(self):
        self.state = None
        self.log = ()
        self._ahead = []

    def __eq__(self, other):
        return type(self) is type(other) and self.log == other.log

    def __str__(self):
        return " / ".join(["desk", *self.log])

    @staticmethod
    def read(text):
        """The Desk of this text."""
        items = items_of(text)
        for at in range(len(items)):
            if not _can_stand_in_text(items, at):
                raise BadText(0, at)
        if len(items) % 3 != 1:
            raise BadText(0, len(items))
        desk = Desk()
        for at in range(2, len(items), 3):
            desk.tell(items[at] + " " + items[at + 1])
        return desk

    def tell(self, line):
        """The answer to the line."""
        items = items_of(line)
        _check_line(items)
        if items[0] in KEPT and len(self.log) == MOST_LINES:
            raise TooMany("lines", MOST_LINES)
        if self.state is None and items[0] not in FIRST:
            raise Nothing()
        if items[0] == "undo":
            return self._undo()
        if items[0] in KEPT:
            return self._keep(line, items)
        answer = ASKED[items[0]]
        return answer(self.state)

    def _keep(self, line, items):
        state_behind = KEPT[items[0]]
        state = state_behind(self.state, items[1])
        self._ahead.append(self.state)
        self.log = (*self.log, line)
        self.state = state
        return state

    def _undo(self):
        self.state = self._ahead.pop()
        self.log = self.log[:-1]
        return "-" if self.state is None else self.state


def _check_line(items):
    """Raises BadText for the first item that cannot stand, if these are not the items of a line."""
    if items[0] in KEPT:
        if len(items) == 1 or not _can_be_told(items[0], items[1]):
            raise BadText(0, 1)
        if len(items) > 2:
            raise BadText(0, 2)
    elif items[0] not in ASKED and items[0] != "undo":
        raise BadText(0, 0)
    elif len(items) > 1:
        raise BadText(0, 1)


def _can_be_told(word, item):
    """Whether the item can stand behind the word that begins a line that is kept."""
    can_stand = CAN_STAND[word]
    return can_stand(item)


def _can_stand_in_text(items, at):
    """Whether an item of a desk's text can stand behind those ahead of it."""
    if at == 0:
        return items[0] == "desk"
    if at % 3 == 1:
        return items[at] == "/" and at // 3 < MOST_LINES
    if at == 2:
        return items[at] in FIRST
    if at % 3 == 2:
        return items[at] in KEPT
    return _can_be_told(items[at - 1], items[at])


def tell_all(lines):
    """The answers of a new Desk that is told these lines, one behind another."""
    if not isinstance(lines, (list, tuple)) or not all([isinstance(line, str) for line in lines]):
        raise BadText(0, 0)
    desk = Desk()
    answers = []
    for at, line in enumerate(lines):
        try:
            answers.append(desk.tell(line))
        except HalfError as error:
            raise BadLine(at, error)
    return tuple(answers)
