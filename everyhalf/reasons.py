"""Why the round goes on as it does."""

from everyhalf.homes import place_of
from everyhalf.loops import last_partner, turn_partner
from everyhalf.papers import Paper, fixed
from everyhalf.pulls import is_chosen
from everyhalf.rings import ring_at
from everyhalf.rounds import next_state
from everyhalf.steps import stretch_at


class Tie(Paper):
    """By what a state and its next one are tied: a kind and a word."""

    def __init__(self, kind, by):
        super().__init__("tie", kind, by)
        self.kind = fixed(kind)
        self.by = fixed(by)


def why_next(state):
    """The Tie by which the round goes on from the state."""
    word = place_of(state)[0]
    behind = next_state(state)
    if behind == last_partner(state):
        return Tie("last", word)
    if behind == turn_partner(state):
        return Tie("turn", word)
    return Tie("ring", ring_at(state))


def backward_at(state):
    """The chosen word in whose stretch the state is, None if it is in none."""
    return stretch_at(place_of(state), is_chosen)
