"""Walks: lists of states, each a lamp's switch away from the one ahead of it."""

from math import comb

from everyhalf.errors import BadWalk
from everyhalf.papers import Denial, Paper, fixed
from everyhalf.states import how_many_states, is_state, lamps_apart

MOST_VALUES = 5000


class Walk(Paper):
    """The list is a walk of so many states."""

    def __init__(self, states):
        super().__init__("walk", states)
        self.states = fixed(states)


class Whole(Paper):
    """The list is a whole walk of so many states."""

    def __init__(self, states):
        super().__init__("whole", states)
        self.states = fixed(states)


class Broken(Denial):
    """The list fails at this index, by "state", "switch" or "again"."""

    def __init__(self, at, why):
        super().__init__("broken", at, why)
        self.at = fixed(at)
        self.why = fixed(why)


class Lacks(Denial):
    """The walk lacks this state, and no lesser one."""

    def __init__(self, state):
        super().__init__("lacks", state)
        self.state = fixed(state)


def judged_walk(states):
    """The Walk of the list, or its Broken."""
    check_list(states)
    seen = {}
    for at, value in enumerate(states):
        # The first value, if it were no state, is told of ahead of all others.
        if not is_state(value) or len(value) != len(states[0]):
            return Broken(at, "state")
        if at > 0 and not _is_switch(states[at - 1], value):
            return Broken(at, "switch")
        if value in seen:
            return Broken(at, "again")
        seen[value] = True
    return Walk(len(states))


def check_list(states):
    """Raises BadWalk("states") unless this is a list of values that can be judged."""
    if not isinstance(states, (list, tuple)) or not 1 <= len(states) <= MOST_VALUES:
        raise BadWalk("states")


def _is_switch(one, other):
    """Whether two states of equally many lamps differ in just one lamp."""
    return len(lamps_apart(one, other)) == 1


def judged_round(states):
    """The Whole of the list, or its Broken, or its Lacks."""
    paper = judged_walk(states)
    if not paper:
        return paper
    if len(states) < how_many_states(len(states[0]) // 2):
        return Lacks(_least_lacking(states))
    if not _is_switch(states[0], states[-1]):
        return Broken(0, "switch")
    return Whole(len(states))


def _least_lacking(states):
    """The least state of as many lamps that these unlike states, not all there are, lack."""
    lamps = len(states[0])
    to_burn = lamps // 2
    row = ""
    left = states
    while len(row) < lamps:
        dark = [state for state in left if state[len(row)] == "0"]
        # With fewer of them than there are states that go on so, one of those lacks.
        if len(dark) < _ways_on(lamps - len(row) - 1, to_burn):
            left = dark
            row += "0"
        else:
            left = [state for state in left if state[len(row)] == "1"]
            row += "1"
            to_burn -= 1
    return row


def _ways_on(lamps, to_burn):
    """In how many ways so many lamps, or one more, burn among these lamps; so many are -1 at least."""
    return comb(lamps + 1, to_burn + 1)
