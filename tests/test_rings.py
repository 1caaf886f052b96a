"""Rings: against lamps that the tests set, and against the loops."""

import unittest

from everyhalf.errors import BadState, BadWord, Misfit
from everyhalf.rings import loop_ties, ring_at, ring_of, ring_ties
from tests.helper import (
    NO_STATES, NO_STRINGS, NO_WORDS, drawn_words, in_short_time, listed_words, raised, told_homes, told_inner,
    told_last_partner, told_ring, told_state, told_turn_partner, told_turned, told_turns,
)

SMALL = {pairs: [word for word in listed_words(pairs) if word.startswith("110")] for pairs in range(2, 8)}
GREAT = ["110" + word[3:] for word in drawn_words("rings", 40) if word[:3] in ("110", "101")] + [
    "1100" * 100, "11" + "01" * 198 + "00", "110" + "1" * 198 + "0" * 199, "1100" + "1" * 198 + "0" * 198,
]
PULLS = [word for words in SMALL.values() for word in words] + GREAT
OF_ONE_WORD = [ring_of, loop_ties, ring_ties]


def unlike(one, other):
    return sum(here != there for here, there in zip(one, other))


class Rings(unittest.TestCase):
    def test_the_six_states_in_their_order(self):
        for word in PULLS:
            self.assertEqual(ring_of(word), tuple(told_ring(word)))
            self.assertEqual(ring_of(word=word), tuple(told_ring(word)))

    def test_the_states_by_their_names(self):
        for word in PULLS:
            x_low, y_high, y_low, z, a, x_high = ring_of(word)
            pulled = "101" + word[3:]
            three = told_turned(told_turned(told_turned(word)))
            self.assertEqual(x_low, told_state(word, 0, False))
            self.assertEqual(x_high, told_state(told_turned(word), 1, True))
            self.assertEqual(y_low, told_state(pulled, 0, False))
            self.assertEqual(y_high, told_state(told_turned(pulled), 1, True))
            self.assertEqual(z, told_state(three, 3, True))
            self.assertEqual(a, told_state(three, 3, False))

    def test_one_or_two_of_three_lamps_burn(self):
        for word in PULLS:
            ring = ring_of(word)
            lamps = (1, 2, 3 + len(told_inner(word)))
            burning = [tuple(lamp for lamp in lamps if state[lamp] == "1") for state in ring]
            self.assertEqual(len(set(burning)), 6)
            self.assertTrue(all(1 <= len(each) <= 2 for each in burning))
            rest = {"".join(sign for at, sign in enumerate(state) if at not in lamps) for state in ring}
            self.assertEqual(len(rest), 1)

    def test_each_is_one_lamp_unlike_the_next_one(self):
        for word in PULLS:
            ring = ring_of(word)
            for one, other in zip(ring, ring[1:] + ring[:1]):
                self.assertEqual(unlike(one, other), 1)

    def test_the_example_of_an_empty_u(self):
        self.assertEqual(ring_of("1100"), ("11000", "11100", "10100", "10110", "10010", "11010"))


class Ties(unittest.TestCase):
    def test_pairs_of_the_ring(self):
        for word in PULLS:
            x_low, y_high, y_low, z, a, x_high = told_ring(word)
            self.assertEqual(loop_ties(word), ((x_low, x_high), (y_low, y_high), (z, a)))
            self.assertEqual(ring_ties(word), ((x_low, y_high), (y_low, z), (x_high, a)))
            self.assertEqual(loop_ties(word=word), loop_ties(word))
            self.assertEqual(ring_ties(word=word), ring_ties(word))

    def test_loop_ties_are_ties_of_loops_and_ring_ties_are_none(self):
        for pairs in range(2, 6):
            homes = told_homes(pairs)
            for word in SMALL[pairs]:
                for one, other in loop_ties(word):
                    self.assertIn(other, (told_last_partner(*homes[one]), told_turn_partner(*homes[one])))
                for one, other in ring_ties(word):
                    self.assertNotIn(other, (told_last_partner(*homes[one]), told_turn_partner(*homes[one])))
                    self.assertEqual(unlike(one, other), 1)


class RingAt(unittest.TestCase):
    def test_each_state_of_a_ring(self):
        for word in PULLS:
            for state in told_ring(word):
                self.assertEqual(in_short_time(ring_at, state), word)
                self.assertEqual(ring_at(state=state), word)

    def test_no_state_is_in_two_rings(self):
        for words in SMALL.values():
            states = [state for word in words for state in told_ring(word)]
            self.assertEqual(len(states), len(set(states)))

    def test_states_in_no_ring(self):
        self.assertTrue(all(ring_at(state) is None for state in told_homes(1)))
        for pairs in range(2, 7):
            in_rings = {state for word in SMALL[pairs] for state in told_ring(word)}
            others = set(told_homes(pairs)) - in_rings
            self.assertEqual(len(others) + 6 * len(SMALL[pairs]), len(told_homes(pairs)))
            for state in others:
                self.assertIsNone(ring_at(state))

    def test_great_states_in_no_ring(self):
        for word in [*GREAT, *drawn_words("none", 10)]:
            turns = told_turns(word)
            for high in (False, True):
                for shift in (2, 4, 5, len(word) // 2, len(word)):
                    self.assertIsNone(ring_at(told_state(word, shift, high)))
            self.assertIsNone(ring_at(told_state(word, 0, True)))
            self.assertIsNone(ring_at(told_state(turns[1 % len(turns)], 1, False)))


class Refused(unittest.TestCase):
    def test_what_is_no_word(self):
        for call in OF_ONE_WORD:
            for value in [*NO_STRINGS, *NO_WORDS]:
                raised(BadWord("word"), call, value)

    def test_words_that_cannot_be_pulled(self):
        for call in OF_ONE_WORD:
            for word in ["10", "1010", "101100", "101010", "111000", "1" * 200 + "0" * 200, "10" * 200]:
                raised(Misfit("word"), call, word)
                raised(Misfit("word"), call, word=word)

    def test_what_is_no_state(self):
        for value in [*NO_STRINGS, *NO_STATES]:
            raised(BadState("state"), ring_at, value)


if __name__ == "__main__":
    unittest.main()
