"""Whether papers tell of walks what is so."""

from everyhalf.papers import is_just
from everyhalf.walks import judged_round, judged_walk


def shows_walk(states, value):
    """Whether any value is the right paper on the list as a walk."""
    return is_just(value, judged_walk(states))


def shows_round(states, value):
    """Whether any value is the right paper on the list as a whole walk."""
    return is_just(value, judged_round(states))
