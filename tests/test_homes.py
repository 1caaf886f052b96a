"""Homes: against states that the tests put together from a word and a shift, lamp by lamp."""

import random
import unittest
from math import comb

from everyhalf.errors import BadNumber, BadState, BadWord
from everyhalf.homes import high_state, home_of, low_state
from tests.helper import (
    HUGE, NO_INTEGERS, NO_STATES, NO_STRINGS, NO_WORDS, all_signs, drawn_word, drawn_words, in_short_time, raised,
    told_homes, told_state,
)

DRAWN = drawn_words("homes", 12)
GREAT = [
    *[drawn_word(random.Random(seed), 200) for seed in range(6)], "10" * 200, "1" * 200 + "0" * 200, "1100" * 100,
]
STATE_OF = {False: low_state, True: high_state}


class Homes(unittest.TestCase):
    def test_all_states_of_one_to_five_pairs(self):
        for pairs in range(1, 6):
            for state, (word, shift, high) in told_homes(pairs).items():
                self.assertEqual(home_of(state), (word, shift))
                self.assertEqual(home_of(state=state), (word, shift))
                self.assertEqual(STATE_OF[high](word, shift), state)
                self.assertEqual(STATE_OF[high](shift=shift, word=word), state)

    def test_each_low_state_is_at_just_one_home_and_so_is_each_high_one(self):
        for pairs in range(1, 6):
            for burning, state_at_home in [(pairs, low_state), (pairs + 1, high_state)]:
                states = [signs for signs in all_signs(2 * pairs + 1) if signs.count("1") == burning]
                homes = [home_of(state) for state in states]
                self.assertEqual(len(set(homes)), len(states))
                self.assertEqual(len(states), (2 * pairs + 1) * comb(2 * pairs, pairs) // (pairs + 1))
                self.assertEqual([state_at_home(*home) for home in homes], states)

    def test_a_pair_is_a_tuple(self):
        for state in ("100", "110", "0110100"):
            self.assertIs(type(home_of(state)), tuple)
            self.assertEqual([type(item) for item in home_of(state)], [str, int])

    def test_drawn_words_at_some_shifts(self):
        for word in DRAWN:
            for shift in {0, 1, 2, len(word) // 2, len(word) - 1, len(word)}:
                for high, state_at_home in STATE_OF.items():
                    state = told_state(word, shift, high)
                    self.assertEqual(state_at_home(word, shift), state)
                    self.assertEqual(home_of(state), (word, shift))

    def test_words_of_200_pairs_at_all_shifts(self):
        for word in GREAT:
            for shift in range(401):
                for high, state_at_home in STATE_OF.items():
                    state = told_state(word, shift, high)
                    self.assertEqual(in_short_time(state_at_home, word, shift), state)
                    self.assertEqual(in_short_time(home_of, state), (word, shift))

    def test_states_without_regard_to_their_words(self):
        draw = random.Random("states")
        for burning in (200, 201):
            for _ in range(20):
                lamps = list("1" * burning + "0" * (401 - burning))
                draw.shuffle(lamps)
                state = "".join(lamps)
                word, shift = home_of(state)
                self.assertEqual(told_state(word, shift, burning == 201), state)


class Refused(unittest.TestCase):
    def test_what_is_no_state(self):
        for value in [*NO_STRINGS, *NO_STATES]:
            raised(BadState("state"), home_of, value)
            raised(BadState("state"), home_of, state=value)

    def test_what_is_no_word(self):
        for call in STATE_OF.values():
            for value in [*NO_STRINGS, *NO_WORDS]:
                raised(BadWord("word"), call, value, 0)
                raised(BadWord("word"), call, shift=0, word=value)

    def test_the_word_is_looked_at_first(self):
        for call in STATE_OF.values():
            for shift in (-1, 3, None, True, HUGE[0]):
                raised(BadWord("word"), call, "01", shift)
                raised(BadWord("word"), call, "100", shift)

    def test_what_is_no_shift(self):
        for call in STATE_OF.values():
            for word in ("10", "1100", "110010", GREAT[0]):
                for value in [-1, -2, len(word) + 1, len(word) + 2, *HUGE, -HUGE[1], *NO_INTEGERS]:
                    raised(BadNumber("shift"), call, word, value)
                self.assertEqual(len(call(word, len(word))), len(word) + 1)


if __name__ == "__main__":
    unittest.main()
