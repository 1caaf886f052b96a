"""Posts: against walking along the round step by step, and against the tests' own swapping and turning."""

import unittest

from everyhalf.errors import BadNumber, BadState, BadWord
from everyhalf.posts import far_next, post_of, state_at, swapped, word_ahead, word_behind, words_on
from everyhalf.rounds import next_state, state_before
from tests.helper import (
    HUGE, NO_INTEGERS, NO_STATES, NO_STRINGS, NO_WORDS, drawn_words, in_short_time, listed_words, raised, told_chosen,
    told_chosen_words, told_order, told_posts, told_round, told_state, told_swapped, told_turned, told_turned_back,
)

ROUNDS = {pairs: told_round(pairs, told_chosen_words(pairs)) for pairs in range(1, 6)}
POSTS = {pairs: told_posts(behind) for pairs, behind in ROUNDS.items()}
LISTED = {pairs: listed_words(pairs) for pairs in range(1, 7)}
CHOSEN = {pairs: told_chosen_words(pairs) for pairs in LISTED}


def told_chosen_of(word):
    """The chosen words of the tree of the word, and of the tree of what it is unpulled."""
    unpulled = "110" + word[3:] if word[:3] == "101" else word
    return {told_chosen(word), told_chosen(unpulled)} - {None}


def great_words():
    """Words of many pairs, among them chosen words, and such words pulled."""
    words = [*drawn_words("posts", 4), "1" * 200 + "0" * 200, "10" * 200, "1100" * 100, "110010" * 66]
    chosen = [each for each in map(told_chosen, words) if each is not None]
    return [*words, *chosen, *["101" + word[3:] for word in chosen]]


GREAT = great_words()


class Posts(unittest.TestCase):
    def test_post_of_each_state(self):
        for posts in POSTS.values():
            for state, post in posts.items():
                self.assertEqual(post_of(state), post)
                self.assertEqual(post_of(state=state), post)

    def test_state_with_each_post(self):
        for posts in POSTS.values():
            for state, (word, offset) in posts.items():
                self.assertEqual(state_at(word, offset), state)
                self.assertEqual(state_at(offset=offset, word=word), state)

    def test_as_many_for_each_word(self):
        for pairs, posts in POSTS.items():
            self.assertEqual(set(posts.values()), {
                (word, offset) for word in LISTED[pairs] for offset in range(4 * pairs + 2)
            })

    def test_a_post_is_a_tuple(self):
        self.assertEqual([type(item) for item in (post_of("1100100"), *post_of("1100101"))], [tuple, str, int])

    def test_many_pairs_step_by_step(self):
        for word in GREAT[2:]:
            pairs = len(word) // 2
            here = told_state(word, 0, False)
            for offset in range(4 * pairs + 2):
                if offset < 12 or offset > 4 * pairs - 5 or offset % 50 == 0:
                    self.assertEqual(in_short_time(post_of, here), (word, offset))
                    self.assertEqual(in_short_time(state_at, word, offset), here)
                here = next_state(here)
            self.assertEqual(post_of(here), (word_behind(word), 0))


class Words(unittest.TestCase):
    def test_swapped(self):
        for pairs, words in LISTED.items():
            for word in words:
                self.assertEqual(swapped(word), told_swapped(word, CHOSEN[pairs]))
                self.assertEqual(swapped(swapped(word=word)), word)

    def test_word_behind_and_word_ahead(self):
        for pairs, words in LISTED.items():
            for word in words:
                behind = told_turned(told_swapped(word, CHOSEN[pairs]))
                self.assertEqual(word_behind(word), behind)
                self.assertEqual(word_behind(word=word), behind)
                self.assertEqual(word_ahead(behind), word)
                self.assertEqual(word_ahead(word=behind), word)
                self.assertEqual(word_behind(word_ahead(word)), word)

    def test_one_round_of_all_words(self):
        for pairs, words in LISTED.items():
            here, seen = words[-1], []
            while not seen or here != words[-1]:
                seen.append(here)
                here = word_behind(here)
            self.assertEqual(sorted(seen), words)

    def test_words_on(self):
        for pairs, words in LISTED.items():
            for word in words[::5]:
                here, told = word, []
                for many in range(9):
                    self.assertEqual(words_on(word, many), tuple(told))
                    self.assertEqual(words_on(many=many, word=word), tuple(told))
                    here = told_turned(told_swapped(here, CHOSEN[pairs]))
                    told.append(here)

    def test_a_thousand_words_on(self):
        for pairs in range(1, 6):
            start = "1" * pairs + "0" * pairs
            found = in_short_time(words_on, start, 1000)
            self.assertEqual(len(found), 1000)
            here = start
            for word in found:
                here = told_turned(told_swapped(here, CHOSEN[pairs]))
                self.assertEqual(word, here)

    def test_great_words(self):
        for word in GREAT:
            told = told_swapped(word, told_chosen_of(word))
            self.assertEqual(in_short_time(swapped, word), told)
            self.assertEqual(in_short_time(word_behind, word), told_turned(told))
            self.assertEqual(in_short_time(word_ahead, told_turned(told)), word)
            back = told_turned_back(word)
            self.assertEqual(in_short_time(word_ahead, word), told_swapped(back, told_chosen_of(back)))

    def test_words_on_of_great_words(self):
        for word in GREAT[1::3]:
            found = in_short_time(words_on, word, 25)
            for one, other in zip((word, *found), found):
                self.assertEqual(told_turned(told_swapped(one, told_chosen_of(one))), other)

    def test_some_great_words_are_swapped(self):
        self.assertTrue(any(word.startswith("110") and swapped(word) != word for word in GREAT))
        self.assertTrue(any(word.startswith("101") and swapped(word) != word for word in GREAT))


class FarNext(unittest.TestCase):
    def test_against_single_steps(self):
        for pairs in range(1, 5):
            behind = ROUNDS[pairs]
            order = told_order(behind, "1" * pairs + "0" * (pairs + 1))
            long = len(order)
            for at in range(0, long, 1 if pairs < 3 else 23):
                steps = [*range(-4 * pairs - 4, 4 * pairs + 5), long, -long, 3 * long + 2, -2 * long - 5, 9999, 10000]
                for many in [*steps, -9999, -10000]:
                    if abs(many) <= 10000:
                        self.assertEqual(far_next(order[at], many), order[(at + many) % long])
                        self.assertEqual(far_next(many=many, state=order[at]), order[(at + many) % long])

    def test_great_states(self):
        for word in GREAT:
            for shift, high in [(0, False), (3, True), (2, False), (len(word), True), (0, True)]:
                state = told_state(word, shift, high)
                ahead = behind = state
                for many in range(1, 9):
                    ahead, behind = state_before(ahead), next_state(behind)
                    self.assertEqual(in_short_time(far_next, state, many), behind)
                    self.assertEqual(in_short_time(far_next, state, -many), ahead)
                self.assertEqual(far_next(state, 0), state)

    def test_ten_thousand_steps_on_and_back(self):
        for word in GREAT[::3]:
            state = told_state(word, 5, False)
            far = in_short_time(far_next, state, 10000)
            self.assertEqual(in_short_time(far_next, far, -10000), state)
            here = state
            for many in range(0, 10000, 2500):
                here = far_next(here, 2500)
            self.assertEqual(here, far)

    def test_a_thousand_single_steps(self):
        for word in [GREAT[1], GREAT[-1]]:
            here = start = told_state(word, 1, True)
            for _ in range(1000):
                here = next_state(here)
            self.assertEqual(far_next(start, 1000), here)
            self.assertEqual(far_next(here, -1000), start)

    def test_refused(self):
        for many in [10001, -10001, 10 ** 6, *HUGE, -HUGE[1], *NO_INTEGERS]:
            raised(BadNumber("many"), far_next, "100", many)
            raised(BadNumber("many"), far_next, many=many, state="11000")
        for value in [*NO_STRINGS, *NO_STATES]:
            for many in (0, 10001, None):
                raised(BadState("state"), far_next, value, many)


class Refused(unittest.TestCase):
    def test_what_is_no_word(self):
        for value in [*NO_STRINGS, *NO_WORDS]:
            for call in (swapped, word_behind, word_ahead):
                raised(BadWord("word"), call, value)
                raised(BadWord("word"), call, word=value)
            for call in (words_on, state_at):
                for number in (0, -1, None, True, HUGE[1]):
                    raised(BadWord("word"), call, value, number)

    def test_what_is_no_state(self):
        for value in [*NO_STRINGS, *NO_STATES]:
            raised(BadState("state"), post_of, value)
            raised(BadState("state"), post_of, state=value)

    def test_how_many_words(self):
        for many in [-1, 1001, 10 ** 6, *HUGE, -HUGE[1], *NO_INTEGERS]:
            raised(BadNumber("many"), words_on, "10", many)
            raised(BadNumber("many"), words_on, many=many, word="1100")

    def test_offsets(self):
        for word in ["10", "1100", "101010", GREAT[0]]:
            most = 2 * len(word) + 1
            self.assertEqual(post_of(state_at(word, most)), (word, most))
            for offset in [-1, most + 1, most + 2, *HUGE, -HUGE[1], *NO_INTEGERS]:
                raised(BadNumber("offset"), state_at, word, offset)
                raised(BadNumber("offset"), state_at, offset=offset, word=word)


if __name__ == "__main__":
    unittest.main()
