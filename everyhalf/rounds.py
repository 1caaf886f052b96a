"""The round of all states: the next state, and the state before."""

from everyhalf.checks import check_number
from everyhalf.homes import place_of, state_of
from everyhalf.pulls import is_chosen
from everyhalf.states import check_state
from everyhalf.steps import place_before, place_next

MOST_STATES_TOLD = 1000


def next_state(state):
    """The next state of the round."""
    return state_of(place_next(place_of(state), is_chosen))


def state_before(state):
    """The state whose next state this one is."""
    return state_of(place_before(place_of(state), is_chosen))


def stretch(state, many):
    """So many next states, in order."""
    _check_stretch(state, many)
    place = place_of(state)
    states = []
    for _ in range(many):
        place = place_next(place, is_chosen)
        states.append(state_of(place))
    return tuple(states)


def stretch_back(state, many):
    """So many states before, the nearest first."""
    _check_stretch(state, many)
    place = place_of(state)
    states = []
    for _ in range(many):
        place = place_before(place, is_chosen)
        states.append(state_of(place))
    return tuple(states)


def _check_stretch(state, many):
    check_state(state, "state")
    check_number(many, 0, MOST_STATES_TOLD, "many")
