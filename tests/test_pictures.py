"""Pictures: against rows that the tests put together themselves."""

import unittest

from everyhalf.errors import BadState, BadWord
from everyhalf.pictures import lamps_of, tree_picture
from tests.helper import (
    HUGE, NO_INTEGERS, NO_STATES, NO_STRINGS, NO_WORDS, drawn_words, in_short_time, listed_states, listed_words,
    raised, told_ties, told_ways,
)

SMALL = [state for pairs in range(1, 6) for state in listed_states(pairs)]
GREAT = ["10" * 200 + "0", "10" * 200 + "1", "1" * 200 + "0" * 201, "0" * 200 + "1" * 201]


def told_row(state):
    return "".join("*" if sign == "1" else "." for sign in state)


def told_picture(word):
    """The rows of a tree: how far each place is from the root, and whether no place has a lesser sum."""
    ties = told_ties(word)
    ways = told_ways(ties, 0)
    sums = {place: sum(told_ways(ties, place).values()) for place in ties}
    least = min(sums.values())
    return tuple(" " * ways[place] + "oO"[sums[place] == least] for place in sorted(ties))


class Lamps(unittest.TestCase):
    def test_one_state(self):
        for state in [*SMALL, *GREAT]:
            self.assertEqual(lamps_of([state]), (told_row(state),))

    def test_states_of_any_pairs(self):
        for states in (SMALL[:7], SMALL[::3], SMALL[-1000:], GREAT, [*SMALL[:9], *GREAT, *SMALL[:9]], ["100"] * 1000):
            told = tuple(told_row(state) for state in states)
            self.assertEqual(in_short_time(lamps_of, states), told)
            self.assertEqual(lamps_of(states=tuple(states)), told)
            self.assertIs(type(lamps_of(states)), tuple)

    def test_none(self):
        self.assertEqual((lamps_of([]), lamps_of(())), ((), ()))

    def test_a_thousand_great_ones(self):
        states = (GREAT * 250)[:1000]
        self.assertEqual(in_short_time(lamps_of, states), tuple(told_row(state) for state in states))

    def test_more_than_a_thousand(self):
        for states in (["100"] * 1001, ("100",) * 1001, ["100"] * 100000, [None] * 1001):
            raised(BadState("states"), in_short_time, lamps_of, states)

    def test_what_is_no_list_of_states(self):
        for value in [*NO_STRINGS, *NO_INTEGERS, "100", "110", {"100"}, {"100": 1}, iter(["100"])]:
            if value not in ([], ()):
                raised(BadState("states"), lamps_of, value)
                raised(BadState("states"), lamps_of, states=value)
        for value in [*NO_STRINGS, *NO_STATES, ["100"], ("100",)]:
            for states in ([value], [value, "100"], ["100", value], ("100", "11000", value)):
                raised(BadState("states"), lamps_of, states)
        raised(BadState("states"), lamps_of, ["100"] * 999 + ["10"])


class Trees(unittest.TestCase):
    def test_all_words(self):
        for pairs in range(1, 8):
            for word in listed_words(pairs):
                told = told_picture(word)
                self.assertEqual(tree_picture(word), told)
                self.assertEqual(tree_picture(word=word), told)

    def test_great_words(self):
        for word in [*drawn_words("pictures", 6), "10" * 200, "1" * 200 + "0" * 200, "1" * 199 + "0" * 199 + "10"]:
            found = in_short_time(tree_picture, word)
            self.assertEqual(found, told_picture(word))
            self.assertIs(type(found), tuple)
            self.assertEqual(len(found), len(word) // 2 + 1)

    def test_what_is_no_word(self):
        for value in [*NO_STRINGS, *NO_WORDS, *HUGE]:
            raised(BadWord("word"), tree_picture, value)
            raised(BadWord("word"), tree_picture, word=value)


if __name__ == "__main__":
    unittest.main()
