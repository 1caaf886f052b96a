"""Loops of states: two partners of each state, steps on and back, one loop for each tree."""

from everyhalf.checks import check_number
from everyhalf.errors import Misfit, TooMany
from everyhalf.homes import other_at_home, place_of, place_turned, state_of
from everyhalf.states import check_state
from everyhalf.tree_names import all_trees, name_of
from everyhalf.words import moved_round, period, turns_of

MOST_STEPS = 10 ** 40 - 1
MOST_STATES = 5000


def last_partner(state):
    """The other state at its home."""
    return state_of(other_at_home(place_of(state)))


def turn_partner(state):
    """The state of a turn more, or of one less for a high state, that differs from it by one lamp."""
    return state_of(place_across_turn(place_of(state)))


def place_across_turn(place):
    """The place of the turn partner."""
    high = place[2]
    return other_at_home(place_turned(place, -1 if high else 1))


def place_on(place):
    """The place one step on."""
    high = place[2]
    return other_at_home(place) if high else place_across_turn(place)


def place_back(place):
    """The place one step back."""
    high = place[2]
    return place_across_turn(place) if high else other_at_home(place)


def on(state):
    """The state one step on."""
    return state_of(place_on(place_of(state)))


def back(state):
    """The state one step back."""
    return state_of(place_back(place_of(state)))


def far_on(state, many):
    """The state so many steps on; below 0, back."""
    check_state(state, "state")
    check_number(many, -MOST_STEPS, MOST_STEPS, "many")
    word, shift, high = place_of(state)
    # From the low state at a home two steps are a turn; from the high one it takes a step to come to the low one.
    steps = many - 1 if high else many
    return state_of(place_turned((word, shift, steps % 2 == 1), (steps + 1) // 2))


def loop_long(state):
    """How many states its loop has."""
    word = place_of(state)[0]
    return 2 * period(word) * len(state)


def loop_of(state):
    """The states of its loop, from this one on."""
    long = loop_long(state)
    if long > MOST_STATES:
        raise TooMany("states", MOST_STATES)
    word, shift, high = place_of(state)
    words = turns_of(word)
    states = []
    for turns in range(long // 2):
        here = (words[turns % len(words)], (shift + turns) % len(state))
        states.append(state_of((*here, True)))
        states.append(state_of((*here, False)))
    # The list begins with the high state at this home, one step ahead of the low one.
    return tuple(states if high else moved_round(states, 1))


def steps_on(one, other):
    """The least number of steps on from one state to the other one; None on unlike loops."""
    check_state(one, "one")
    check_state(other, "other")
    if len(one) != len(other):
        raise Misfit("other")
    word, shift, high = place_of(one)
    other_word, other_shift, other_high = place_of(other)
    words = turns_of(word)
    if other_word not in words:
        return None
    turns = _turns_to(words.index(other_word), len(words), (other_shift - shift) % len(one), len(one))
    # A high state is one step ahead of the low one at its home.
    steps = 2 * turns + (1 if high else 0) - (1 if other_high else 0)
    return steps % (2 * len(words) * len(one))


def _turns_to(turns, in_period, shifts, in_circle):
    """The least number that is turns but for whole periods, and shifts but for whole circles."""
    # A period and a circle have no common divisor, so the number comes within as many periods as the circle has lamps.
    while turns % in_circle != shifts:
        turns += in_period
    return turns


def tree_at(state):
    """The name of the tree of its loop."""
    word = place_of(state)[0]
    return name_of(word)


def loop_begins(pairs):
    """For each tree of so many ties, by its name ascending, the low state at home (name, 0)."""
    return tuple([state_of((name, 0, False)) for name in all_trees(pairs)])
