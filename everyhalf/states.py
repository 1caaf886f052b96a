"""States: rows of lamps of which about half burn."""

from math import comb

from everyhalf.checks import MOST_PAIRS, check_number, check_pairs, is_signs
from everyhalf.errors import BadState, Misfit
from everyhalf.words import exchanged_signs, moved_round

MOST_PAIRS_OF_STATES = 5


def is_state(value):
    """Whether any value is a state."""
    if not is_signs(value) or not 3 <= len(value) <= 2 * MOST_PAIRS + 1:
        return False
    return len(value) % 2 == 1 and value.count("1") - len(value) // 2 in (0, 1)


def check_state(value, part):
    """Raises BadState(part) unless the value is a state."""
    if not is_state(value):
        raise BadState(part)


def pairs_of(state):
    """How many pairs the state has."""
    check_state(state, "state")
    return len(state) // 2


def is_high(state):
    """Whether more than half of the lamps burn."""
    check_state(state, "state")
    return state.count("1") > len(state) // 2


def switched(state, lamp):
    """The state with the sign of one lamp exchanged."""
    check_state(state, "state")
    check_number(lamp, 0, len(state) - 1, "lamp")
    row = state[:lamp] + exchanged_signs(state[lamp]) + state[lamp + 1:]
    if not is_state(row):
        raise Misfit("lamp")
    return row


def moved(state, many):
    """The state moved so many lamps around the circle; below 0, the other way round."""
    check_state(state, "state")
    check_number(many, None, None, "many")
    return moved_round(state, -many)


def exchanged(state):
    """The state with all signs exchanged."""
    check_state(state, "state")
    return exchanged_signs(state)


def lamps_apart(one, other):
    """The lamps in which two states of equally many lamps differ."""
    return [lamp for lamp, signs in enumerate(zip(one, other)) if signs[0] != signs[1]]


def how_many_states(pairs):
    """How many states have so many pairs."""
    check_pairs(pairs)
    return 2 * comb(2 * pairs + 1, pairs)


def all_states(pairs):
    """All states of so many pairs, ascending."""
    check_number(pairs, 1, MOST_PAIRS_OF_STATES, "pairs")
    rows = [""]
    for _ in range(2 * pairs + 1):
        rows = [row + sign for row in rows for sign in "01"]
    return tuple([row for row in rows if is_state(row)])
