"""Pictures of states and of trees, row by row."""

from everyhalf.errors import BadState
from everyhalf.states import is_state
from everyhalf.trees import middles, ups_of

MOST_STATES_SHOWN = 1000


def lamps_of(states):
    """A row for each state: * for a lamp that burns, . for one that does not."""
    if not isinstance(states, (list, tuple)) or len(states) > MOST_STATES_SHOWN:
        raise BadState("states")
    if not all([is_state(state) for state in states]):
        raise BadState("states")
    return tuple([state.replace("1", "*").replace("0", ".") for state in states])


def tree_picture(word):
    """A row for each place of the word's tree: as many blanks as ties lead to the root, and O for a middle, o else."""
    depths = [0]
    for up in ups_of(word):
        depths.append(depths[up] + 1)
    shown = middles(word)
    return tuple([" " * depth + ("O" if place in shown else "o") for place, depth in enumerate(depths)])
