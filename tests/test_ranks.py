"""Ranks: against going along the tests' own rounds from their first words and states."""

import unittest
from math import comb

from everyhalf.errors import BadNumber, BadState, BadWord, TooMany
from everyhalf.posts import word_ahead, word_behind
from everyhalf.ranks import rank_of, state_ranked, word_rank, word_ranked
from everyhalf.rounds import next_state, state_before
from tests.helper import (
    HUGE, NO_INTEGERS, NO_STATES, NO_STRINGS, NO_WORDS, in_short_time, listed_words, raised, told_chosen_words,
    told_order, told_round, told_swapped, told_turned,
)


def told_words(pairs):
    """All words of so many pairs, as the round comes by them."""
    pulls = told_chosen_words(pairs)
    behind = {word: told_turned(told_swapped(word, pulls)) for word in listed_words(pairs)}
    return told_order(behind, "1" * pairs + "0" * pairs)


WORDS = {pairs: told_words(pairs) for pairs in range(1, 7)}
STATES = {
    pairs: told_order(told_round(pairs, told_chosen_words(pairs)), "1" * pairs + "0" * pairs + "0")
    for pairs in range(1, 6)
}
MANY_WORDS = {pairs: comb(2 * pairs, pairs) // (pairs + 1) for pairs in range(1, 201)}
MANY_STATES = {pairs: 2 * comb(2 * pairs + 1, pairs) for pairs in range(1, 201)}


class Ranks(unittest.TestCase):
    def test_all_words(self):
        for pairs, words in WORDS.items():
            self.assertEqual(len(words), MANY_WORDS[pairs])
            for rank, word in enumerate(words):
                self.assertEqual(word_rank(word), rank)
                self.assertEqual(word_ranked(pairs, rank), word)
                self.assertEqual(word_rank(word=word), rank)
                self.assertEqual(word_ranked(rank=rank, pairs=pairs), word)

    def test_all_states(self):
        for pairs, states in STATES.items():
            self.assertEqual(len(states), MANY_STATES[pairs])
            for rank, state in enumerate(states):
                self.assertEqual(rank_of(state), rank)
                self.assertEqual(state_ranked(pairs, rank), state)
                self.assertEqual(rank_of(state=state), rank)
                self.assertEqual(state_ranked(rank=rank, pairs=pairs), state)

    def test_six_to_eight_pairs(self):
        for pairs in (6, 7, 8):
            for rank in range(0, MANY_STATES[pairs] - 1, MANY_STATES[pairs] // 40):
                state = in_short_time(state_ranked, pairs, rank)
                self.assertEqual(in_short_time(rank_of, state), rank)
                self.assertEqual(state_ranked(pairs, rank + 1), next_state(state))
            for rank in range(0, MANY_WORDS[pairs] - 1, MANY_WORDS[pairs] // 40):
                word = in_short_time(word_ranked, pairs, rank)
                self.assertEqual(in_short_time(word_rank, word), rank)
                self.assertEqual(word_ranked(pairs, rank + 1), word_behind(word))

    def test_the_first_and_the_last_ranks(self):
        for pairs in range(1, 9):
            word, state = "1" * pairs + "0" * pairs, "1" * pairs + "0" * (pairs + 1)
            self.assertEqual((word_rank(word), rank_of(state)), (0, 0))
            self.assertEqual((word_ranked(pairs, 0), state_ranked(pairs, 0)), (word, state))
            last_word, last_state = MANY_WORDS[pairs] - 1, MANY_STATES[pairs] - 1
            self.assertEqual(in_short_time(word_ranked, pairs, last_word), word_ahead(word))
            self.assertEqual(in_short_time(state_ranked, pairs, last_state), state_before(state))
            self.assertEqual(in_short_time(word_rank, word_ahead(word)), last_word)
            self.assertEqual(in_short_time(rank_of, state_before(state)), last_state)


class Refused(unittest.TestCase):
    def test_what_is_no_word_or_state(self):
        for value in [*NO_STRINGS, *NO_WORDS]:
            raised(BadWord("word"), word_rank, value)
            raised(BadWord("word"), word_rank, word=value)
        for value in [*NO_STRINGS, *NO_STATES]:
            raised(BadState("state"), rank_of, value)
            raised(BadState("state"), rank_of, state=value)

    def test_pairs(self):
        for pairs in [0, -1, 201, 10 ** 6, *HUGE, -HUGE[1], *NO_INTEGERS]:
            for call in (word_ranked, state_ranked):
                for rank in (0, -1, None, HUGE[2]):
                    raised(BadNumber("pairs"), call, pairs, rank)
                    raised(BadNumber("pairs"), call, rank=rank, pairs=pairs)

    def test_ranks(self):
        for call, many in ((word_ranked, MANY_WORDS), (state_ranked, MANY_STATES)):
            for pairs in (1, 2, 3, 8, 9, 10, 199, 200):
                for rank in [-1, -2, many[pairs], many[pairs] + 1, *HUGE[1:], -HUGE[1], *NO_INTEGERS]:
                    raised(BadNumber("rank"), call, pairs, rank)
                    raised(BadNumber("rank"), call, rank=rank, pairs=pairs)

    def test_too_many_pairs_come_behind(self):
        for pairs in (9, 10, 57, 200):
            for call, many in ((word_ranked, MANY_WORDS), (state_ranked, MANY_STATES)):
                for rank in (0, 1, many[pairs] - 1):
                    raised(TooMany("pairs", 8), in_short_time, call, pairs, rank)
                    raised(TooMany("pairs", 8), call, rank=rank, pairs=pairs)
            for word in ("10" * pairs, "1" * pairs + "0" * pairs):
                raised(TooMany("pairs", 8), in_short_time, word_rank, word)
                for sign in "01":
                    raised(TooMany("pairs", 8), in_short_time, rank_of, word + sign)
                    raised(TooMany("pairs", 8), rank_of, state=word + sign)


if __name__ == "__main__":
    unittest.main()
