"""The round: against loops whose ties the tests exchange in the ring of each chosen word."""

import unittest

from everyhalf.errors import BadNumber, BadState
from everyhalf.rounds import next_state, state_before, stretch, stretch_back
from tests.helper import (
    HUGE, NO_INTEGERS, NO_STATES, NO_STRINGS, drawn_words, in_short_time, raised, told_chosen, told_chosen_words,
    told_least_sum, told_ring, told_round, told_state, told_stretch, told_turned, told_turned_back,
    told_turns,
)

ROUNDS = {pairs: told_round(pairs, told_chosen_words(pairs)) for pairs in range(1, 6)}


def chosen_in_trees_of(words):
    """The chosen words of the trees of these words."""
    return [chosen for chosen in map(told_chosen, words) if chosen is not None]


GREAT_CHOSEN = chosen_in_trees_of([
    *drawn_words("chosen", 4), "1" * 200 + "0" * 200, "1100" * 100, "110010" * 66, "1" * 90 + "10" * 110 + "0" * 90,
])


class Round(unittest.TestCase):
    def test_next_states_of_all_states(self):
        for behind in ROUNDS.values():
            for state, other in behind.items():
                self.assertEqual(next_state(state), other)
                self.assertEqual(next_state(state=state), other)

    def test_the_state_before_undoes_the_next_one(self):
        for behind in ROUNDS.values():
            for state, other in behind.items():
                self.assertEqual(state_before(other), state)
                self.assertEqual(state_before(state=next_state(state)), state)
                self.assertEqual(next_state(state_before(state)), state)

    def test_one_lamp_is_switched_at_each_step(self):
        for pairs, behind in ROUNDS.items():
            for state in behind:
                other = next_state(state)
                self.assertEqual(sum(one != two for one, two in zip(state, other)), 1)
                self.assertIn(other.count("1"), (pairs, pairs + 1))

    def test_it_comes_by_all_states_once(self):
        for pairs, behind in ROUNDS.items():
            start = "1" * pairs + "0" * (pairs + 1)
            here, seen = start, []
            while not seen or here != start:
                seen.append(here)
                here = next_state(here)
            self.assertEqual(len(seen), len(set(seen)))
            self.assertEqual(set(seen), set(behind))

    def test_six_pairs(self):
        behind = told_round(6, told_chosen_words(6))
        for state, other in behind.items():
            self.assertEqual(next_state(state), other)
            self.assertEqual(state_before(other), state)


class AroundTheRings(unittest.TestCase):
    """Great states, by what [9] tells of the ring and of the stretch of a chosen word."""

    def test_the_words_are_chosen_ones(self):
        self.assertTrue(any(len(word) == 400 for word in GREAT_CHOSEN))
        for word in GREAT_CHOSEN:
            self.assertEqual(told_least_sum("101" + word[3:]), told_least_sum(word) - 1)

    def test_ties_of_the_ring(self):
        for word in GREAT_CHOSEN:
            x_low, y_high, y_low, z, a, x_high = told_ring(word)
            for one, other in [(x_low, y_high), (y_low, z), (x_high, a)]:
                self.assertEqual(in_short_time(next_state, one), other)
                self.assertEqual(in_short_time(state_before, other), one)

    def test_the_stretch(self):
        for word in GREAT_CHOSEN:
            turns = told_turns(word) * 4
            y_low = told_state("101" + word[3:], 0, False)
            steps = (*told_stretch(word), told_state(turns[3], 3, False), told_state(turns[4], 4, True))
            self.assertEqual(stretch(y_low, 7), steps)
            self.assertEqual(stretch_back(steps[-1], 7), (*steps[-2::-1], y_low))

    def test_all_around_is_gone_on(self):
        for word in GREAT_CHOSEN:
            # From the low state with shift 4 to the high one with shift 0 nothing but turns.
            turns = told_turns(word)
            way = []
            for turn in range(4, len(word) + 2):
                for high in (True, False):
                    way.append(told_state(turns[turn % len(turns)], turn % (len(word) + 1), high))
            way = way[1:-1]
            self.assertEqual(in_short_time(stretch, way[0], len(way) - 1), tuple(way[1:]))
            self.assertEqual(in_short_time(stretch_back, way[-1], len(way) - 1), tuple(way[-2::-1]))

    def test_right_words_that_are_not_chosen(self):
        found = 0
        for word in drawn_words("right", 6, 120):
            turns = told_turns(word)
            chosen = told_chosen(word)
            for at, each in enumerate(turns):
                if each.startswith("110") and each != chosen:
                    found += 1
                    low = told_state(each, 0, False)
                    self.assertEqual(next_state(low), told_state(turns[(at + 1) % len(turns)], 1, True))
                    self.assertEqual(state_before(next_state(low)), low)
        self.assertGreater(found, 10)

    def test_pulled_words_of_which_none_is_chosen(self):
        found = 0
        for word in drawn_words("pulled", 6, 120):
            for each in told_turns(word):
                if each.startswith("101") and told_chosen("110" + each[3:]) != "110" + each[3:]:
                    found += 1
                    low = told_state(each, 0, False)
                    self.assertEqual(next_state(low), told_state(told_turned(each), 1, True))
                    high = told_state(told_turned_back(each), 0, True)
                    self.assertEqual(next_state(high), told_state(told_turned_back(each), 0, False))
        self.assertGreater(found, 10)


class Stretches(unittest.TestCase):
    def test_against_single_steps(self):
        for pairs, behind in ROUNDS.items():
            ahead = {other: state for state, other in behind.items()}
            for start in list(behind)[::7]:
                on, before, here, there = [], [], start, start
                for many in range(12):
                    self.assertEqual(stretch(start, many), tuple(on))
                    self.assertEqual(stretch_back(start, many), tuple(before))
                    self.assertEqual(stretch(many=many, state=start), tuple(on))
                    self.assertEqual(stretch_back(many=many, state=start), tuple(before))
                    here, there = behind[here], ahead[there]
                    on.append(here)
                    before.append(there)

    def test_none_and_a_thousand(self):
        for pairs, behind in ROUNDS.items():
            ahead = {other: state for state, other in behind.items()}
            start = "1" * pairs + "0" * (pairs + 1)
            self.assertEqual((stretch(start, 0), stretch_back(start, 0)), ((), ()))
            here, there = start, start
            for on, before in zip(in_short_time(stretch, start, 1000), in_short_time(stretch_back, start, 1000)):
                here, there = behind[here], ahead[there]
                self.assertEqual((on, before), (here, there))
            self.assertEqual(len(stretch(start, 1000)), 1000)
            self.assertEqual(len(stretch_back(start, 1000)), 1000)

    def test_back_again(self):
        for word in drawn_words("back", 6):
            for shift, high in [(0, False), (3, True), (1, True), (len(word), False)]:
                start = told_state(word, shift, high)
                on = in_short_time(stretch, start, 5000 // (len(word) // 2) % 1001)
                back = in_short_time(stretch_back, on[-1], len(on))
                self.assertEqual(back, (*on[-2::-1], start))

    def test_refused(self):
        for call in (stretch, stretch_back):
            for many in [-1, 1001, 10 ** 6, *HUGE, -HUGE[1], *NO_INTEGERS]:
                raised(BadNumber("many"), call, "100", many)
                raised(BadNumber("many"), call, many=many, state="11000")
            for value in [*NO_STRINGS, *NO_STATES]:
                for many in (0, -1, None, 1001):
                    raised(BadState("state"), call, value, many)


class Refused(unittest.TestCase):
    def test_what_is_no_state(self):
        for call in (next_state, state_before):
            for value in [*NO_STRINGS, *NO_STATES]:
                raised(BadState("state"), call, value)
                raised(BadState("state"), call, state=value)


class ShortTime(unittest.TestCase):
    def test_states_of_200_pairs(self):
        words = ["10" * 200, "1" * 200 + "0" * 200, "1100" * 100, "11" + "10" * 198 + "00", *GREAT_CHOSEN]
        for word in words:
            for shift in (0, 1, 2, 3, 4, len(word)):
                for high in (False, True):
                    state = told_state(word, shift, high)
                    self.assertEqual(in_short_time(state_before, in_short_time(next_state, state)), state)
                    self.assertEqual(len(in_short_time(stretch, state, 25)), 25)
                    self.assertEqual(len(in_short_time(stretch_back, state, 25)), 25)


if __name__ == "__main__":
    unittest.main()
