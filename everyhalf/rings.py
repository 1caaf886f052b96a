"""Rings: six states around each word that can be pulled, by which two loops become one."""

from everyhalf.homes import place_of
from everyhalf.pulls import can_pull, check_can_pull, unpulled
from everyhalf.words import first_pair, turned_by

# Which of the three lamps of a ring burn, in the order of its states.
BURNING = ("100", "110", "010", "011", "001", "101")


def ring_of(word):
    """The six states of the ring of a word that can be pulled."""
    check_can_pull(word)
    behind = len(first_pair(word)[0]) + 1
    row = word + "0"
    return tuple([row[:1] + lamps[:2] + row[3:behind] + lamps[2:] + row[behind + 1:] for lamps in BURNING])


def loop_ties(word):
    """The ties of the ring that are ties of loops."""
    x_low, y_high, y_low, z, a, x_high = ring_of(word)
    return (x_low, x_high), (y_low, y_high), (z, a)


def ring_ties(word):
    """The ties of the ring that are ties of no loop."""
    x_low, y_high, y_low, z, a, x_high = ring_of(word)
    return (x_low, y_high), (y_low, z), (x_high, a)


def ring_at(state):
    """The word in whose ring the state is, None if it is in none."""
    word, shift, high = place_of(state)
    if shift == 3:
        return _pull_of(turned_by(word, -3), False)
    if (shift, high) in ((0, False), (1, True)):
        return _pull_of(turned_by(word, -shift), True)
    return None


def _pull_of(word, may_be_pulled):
    """The word itself, if it can be pulled, or what it is unpulled, if it may be pulled already; or None."""
    if can_pull(word):
        return word
    if may_be_pulled and word.startswith("101"):
        return unpulled(word)
    return None
