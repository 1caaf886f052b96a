"""States: against what the tests list and move themselves."""

import random
import unittest
from math import comb

from everyhalf.errors import BadNumber, BadState, Misfit
from everyhalf.states import (
    all_states, exchanged, how_many_states, is_high, is_state, lamps_apart, moved, pairs_of, switched,
)
from tests.helper import (
    HUGE, NO_INTEGERS, NO_SIGNS, NO_STATES, NO_STRINGS, all_signs, in_short_time, listed_states, raised, told_is_state,
)


def drawn_states(seed, many):
    draw = random.Random(seed)
    states = []
    for pairs in [200, 200, 199, *[draw.randint(6, 200) for _ in range(many)]]:
        lamps = list("1" * (pairs + len(states) % 2) + "0" * (pairs + 1 - len(states) % 2))
        draw.shuffle(lamps)
        states.append("".join(lamps))
    return states


LISTED = {pairs: listed_states(pairs) for pairs in range(1, 6)}
SMALL = [state for states in LISTED.values() for state in states]
DRAWN = drawn_states("states", 20)
GREATEST = ["10" * 200 + "0", "10" * 200 + "1", "1" * 200 + "0" * 201, "0" * 200 + "1" * 201]
STATES = [*SMALL, *DRAWN, *GREATEST]
NO_PAIRS = [0, -1, 201, 10 ** 6, -(10 ** 400), *HUGE, *NO_INTEGERS]
OF_ONE_STATE = [pairs_of, is_high, exchanged]


class IsState(unittest.TestCase):
    def test_all_short_strings_of_signs(self):
        for length in range(12):
            for text in all_signs(length):
                self.assertIs(is_state(text), told_is_state(text), text)

    def test_great_ones(self):
        for state in [*DRAWN, *GREATEST]:
            self.assertIs(is_state(value=state), True)
            self.assertIs(is_state(state[1:]), False)
            for sign in NO_SIGNS:
                self.assertIs(is_state(state + sign), False)
                self.assertIs(is_state(sign + state[1:]), False)

    def test_how_many_burn(self):
        for pairs in (1, 2, 7, 199, 200):
            for burning in range(2 * pairs + 2):
                text = "1" * burning + "0" * (2 * pairs + 1 - burning)
                self.assertIs(is_state(text), burning in (pairs, pairs + 1))

    def test_other_values(self):
        for at, value in enumerate([*NO_STRINGS, *NO_STATES]):
            with self.subTest(at=at):
                self.assertIs(is_state(value), False)


class OfOneState(unittest.TestCase):
    def test_pairs_of(self):
        for state in STATES:
            self.assertEqual(pairs_of(state), (len(state) - 1) // 2)

    def test_is_high(self):
        for state in STATES:
            self.assertIs(is_high(state), state.count("1") > state.count("0"))

    def test_exchanged(self):
        for state in STATES:
            told = state.translate({48: "1", 49: "0"})
            self.assertEqual(exchanged(state), told)
            self.assertEqual(exchanged(told), state)
            self.assertIs(is_high(told), not is_high(state))

    def test_by_name(self):
        for call in OF_ONE_STATE:
            for state in STATES:
                self.assertEqual(call(state=state), call(state))

    def test_what_is_no_state_is_refused(self):
        for call in OF_ONE_STATE:
            for value in [*NO_STRINGS, *NO_STATES]:
                raised(BadState("state"), call, value)


class Switched(unittest.TestCase):
    def test_each_lamp(self):
        for state in [*LISTED[1], *LISTED[2], *LISTED[3], *DRAWN[2:6], GREATEST[0], GREATEST[3]]:
            for lamp in range(len(state)):
                told = state[:lamp] + {"0": "1", "1": "0"}[state[lamp]] + state[lamp + 1:]
                if told_is_state(told):
                    self.assertEqual(switched(state, lamp), told)
                    self.assertEqual(switched(lamp=lamp, state=state), told)
                    self.assertEqual(switched(told, lamp), state)
                else:
                    raised(Misfit("lamp"), switched, state, lamp)

    def test_no_lamp(self):
        for state in ["100", "110", "0110100", *GREATEST]:
            for lamp in [-1, -2, len(state), len(state) + 1, *HUGE, -HUGE[1], *NO_INTEGERS]:
                raised(BadNumber("lamp"), switched, state, lamp)

    def test_the_state_is_looked_at_first(self):
        for value in [*NO_STRINGS, *NO_STATES]:
            for lamp in (0, -1, 3, None, True):
                raised(BadState("state"), switched, value, lamp)


class Moved(unittest.TestCase):
    def test_lamp_by_lamp(self):
        for state in [*LISTED[1], *LISTED[2], *LISTED[3][::5], *DRAWN[2:5]]:
            long = len(state)
            for many in [*range(-8, 9), long - 1, long, long + 1, -long, 5 * long + 2, -7 * long - 3]:
                row = [None] * long
                for lamp in range(long):
                    row[(lamp + many) % long] = state[lamp]
                self.assertEqual(moved(state, many), "".join(row))
                self.assertEqual(moved(many=many, state=state), "".join(row))

    def test_moved_back(self):
        for state in STATES:
            self.assertEqual(moved(state, 0), state)
            self.assertEqual(moved(state, len(state)), state)
            self.assertEqual(moved(state, 1), state[-1] + state[:-1])
            self.assertEqual(moved(moved(state, 17), -17), state)

    def test_very_great_numbers(self):
        for state in [*LISTED[1], *DRAWN[:3], *GREATEST]:
            for many in HUGE:
                for each in (many, -many, many + 1, -many - 1):
                    self.assertEqual(in_short_time(moved, state, each), moved(state, each % len(state)))

    def test_refuses(self):
        for value in NO_INTEGERS:
            raised(BadNumber("many"), moved, "100", value)
            raised(BadNumber("many"), moved, many=value, state="11000")
        for value in [*NO_STRINGS, *NO_STATES]:
            for many in (0, 1, None, True):
                raised(BadState("state"), moved, value, many)


class Apart(unittest.TestCase):
    def test_lamps_in_which_two_states_differ(self):
        for states in [LISTED[1], LISTED[2], LISTED[3][::3]]:
            for one in states:
                for other in states:
                    told = [lamp for lamp in range(len(one)) if one[lamp] != other[lamp]]
                    self.assertEqual(lamps_apart(one, other), told)


class HowMany(unittest.TestCase):
    def test_how_many_states(self):
        for pairs in range(1, 201):
            told = comb(2 * pairs + 1, pairs) + comb(2 * pairs + 1, pairs + 1)
            self.assertEqual(how_many_states(pairs), told)
            self.assertEqual(how_many_states(pairs=pairs), told)
            # Twice as many as shifts and words.
            self.assertEqual(told, 2 * (2 * pairs + 1) * comb(2 * pairs, pairs) // (pairs + 1))

    def test_all_states(self):
        for pairs, states in LISTED.items():
            found = in_short_time(all_states, pairs)
            self.assertEqual(found, tuple(states))
            self.assertEqual(all_states(pairs=pairs), found)
            self.assertEqual(len(found), how_many_states(pairs))
            self.assertEqual(list(found), sorted(found))

    def test_refuse(self):
        for value in NO_PAIRS:
            raised(BadNumber("pairs"), how_many_states, value)
            raised(BadNumber("pairs"), all_states, value)
        for value in (6, 7, 200):
            raised(BadNumber("pairs"), all_states, pairs=value)


class ShortTime(unittest.TestCase):
    def test_greatest_states(self):
        for state in GREATEST:
            for call in (is_state, *OF_ONE_STATE):
                in_short_time(call, state)
            in_short_time(switched, state, state.index("0" if state.count("1") == 200 else "1"))
        in_short_time(how_many_states, 200)


if __name__ == "__main__":
    unittest.main()
