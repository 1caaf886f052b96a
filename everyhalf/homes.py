"""Homes of states: the word that stands in a row of lamps, and where it begins.

A place is a tuple of the word and the shift of a state's home, and whether
the state is high; it tells the state, and is easier to go on from.
"""

from everyhalf.checks import check_number
from everyhalf.states import check_state
from everyhalf.words import check_word, exchanged_signs, mirrored_word, moved_round, turned_by


def home_of(state):
    """The pair (word, shift) of the state's home."""
    word, shift, _ = place_of(state)
    return word, shift


def low_state(word, shift):
    """The low state at this home."""
    _check_home(word, shift)
    return state_of((word, shift, False))


def high_state(word, shift):
    """The high state at this home."""
    _check_home(word, shift)
    return state_of((word, shift, True))


def _check_home(word, shift):
    check_word(word, "word")
    check_number(shift, 0, len(word), "shift")


def place_of(state):
    """The word and the shift of the state's home, and whether the state is high."""
    check_state(state, "state")
    if state.count("0") > len(state) // 2:
        word, shift = _low_home(state)
        return word, shift, False
    # Read backward with its signs exchanged a high state is a low one, and its word is one, too.
    word, shift = _low_home(exchanged_signs(state[::-1]))
    return mirrored_word(word), (1 - shift) % len(state), True


def _low_home(row):
    shift = _behind_first_lowest(row) % len(row)
    return moved_round(row, shift)[:-1], shift


def _behind_first_lowest(row):
    """How many lamps lead to the lowest depth for the first time, one up at each 1, one down at each 0."""
    depths = [0]
    for sign in row:
        depths.append(depths[-1] + (1 if sign == "1" else -1))
    return depths.index(min(depths))


def state_of(place):
    """The state at this place."""
    word, shift, high = place
    return moved_round(word + ("1" if high else "0"), -shift)


def place_turned(place, many):
    """The place whose word is turned so many times, and whose shift goes along; as low or high as this one."""
    word, shift, high = place
    return turned_by(word, many), (shift + many) % (len(word) + 1), high


def other_at_home(place):
    """The place of the last partner."""
    word, shift, high = place
    return word, shift, not high
