"""Loops: partners by homes and turns that the tests reckon; steps against walking."""

import unittest

from everyhalf.errors import BadNumber, BadState, Misfit, TooMany
from everyhalf.loops import (
    back, far_on, last_partner, loop_begins, loop_long, loop_of, on, steps_on, tree_at, turn_partner,
)
from everyhalf.tree_names import all_trees, how_many_trees
from tests.helper import (
    HUGE, NO_INTEGERS, NO_STATES, NO_STRINGS, drawn_words, in_short_time, listed_words, raised, told_homes,
    told_last_partner, told_state, told_turn_partner, told_turns,
)

HOMES = {pairs: told_homes(pairs) for pairs in range(1, 6)}
DRAWN = {
    told_state(word, shift % (len(word) + 1), high): (word, shift % (len(word) + 1), high)
    for word in drawn_words("loops", 8) for shift in (0, 1, 3, len(word)) for high in (False, True)
}
GREAT = {
    told_state(word, shift, high): (word, shift, high)
    for word in ["10" * 200, "1" * 200 + "0" * 200, "1100" * 100, *drawn_words("great", 2)]
    for shift in (0, len(word)) for high in (False, True)
}
ALL_HOMES = {**{state: home for homes in HOMES.values() for state, home in homes.items()}, **DRAWN, **GREAT}
OF_ONE_STATE = [last_partner, turn_partner, on, back, loop_long, loop_of, tree_at]
FARTHEST = 10 ** 40 - 1


def told_on(word, shift, high):
    return told_last_partner(word, shift, high) if high else told_turn_partner(word, shift, high)


def told_loop(state, homes):
    """The states of the loop from this one on, by going on until it comes again."""
    loop = [state]
    while (behind := told_on(*homes[loop[-1]])) != state:
        loop.append(behind)
    return loop


def told_loops(pairs):
    """All loops of states of so many pairs."""
    loops, seen = [], set()
    for state in HOMES[pairs]:
        if state not in seen:
            loops.append(told_loop(state, HOMES[pairs]))
            seen.update(loops[-1])
    return loops


LOOPS = {pairs: told_loops(pairs) for pairs in range(1, 6)}


class Steps(unittest.TestCase):
    def test_partners(self):
        for state, home in ALL_HOMES.items():
            self.assertEqual(last_partner(state), told_last_partner(*home))
            self.assertEqual(turn_partner(state), told_turn_partner(*home))
            for partner in (last_partner, turn_partner):
                self.assertEqual(partner(partner(state)), state)
                self.assertEqual(sum(one != other for one, other in zip(state, partner(state=state))), 1)
            self.assertNotEqual(last_partner(state), turn_partner(state))

    def test_on_and_back(self):
        for state, home in ALL_HOMES.items():
            self.assertEqual(on(state), told_on(*home))
            self.assertEqual(back(on(state)), state)
            self.assertEqual(on(back(state)), state)
            self.assertEqual(on(state=back(state=state)), state)
            self.assertEqual({on(state), back(state)}, {last_partner(state), turn_partner(state)})


class FarOn(unittest.TestCase):
    def test_a_few_and_all_around(self):
        for pairs in range(1, 5):
            for loop in LOOPS[pairs]:
                long = len(loop)
                for start in {0, 1, 2, 5 % long, long - 1}:
                    around = [long // 2, long - 1, long, long + 1, -long, 7 * long + 3, -9 * long - 4]
                    for many in [*range(-5, 6), *around]:
                        self.assertEqual(far_on(loop[start], many), loop[(start + many) % long])
                        self.assertEqual(far_on(many=many, state=loop[start]), loop[(start + many) % long])

    def test_each_number_of_steps_around(self):
        for loop in LOOPS[3]:
            for many in range(-len(loop), len(loop) + 1):
                self.assertEqual(far_on(loop[0], many), loop[many % len(loop)])
                self.assertEqual(far_on(loop[1], many), loop[(many + 1) % len(loop)])

    def test_great_states_step_by_step(self):
        for state in [*DRAWN, *GREAT]:
            ahead = behind = state
            for many in range(6):
                self.assertEqual(far_on(state, many), behind)
                self.assertEqual(far_on(state, -many), ahead)
                ahead, behind = back(ahead), on(behind)

    def test_integers_of_up_to_40_digits(self):
        for state in [LOOPS[1][0][0], LOOPS[2][0][3], LOOPS[3][1][4], LOOPS[5][2][1], *DRAWN, *GREAT]:
            long = loop_long(state)
            for many in (FARTHEST, -FARTHEST, 10 ** 39, -(10 ** 39), 10 ** 20, 3 ** 70):
                self.assertEqual(in_short_time(far_on, state, many), far_on(state, many % long))
                self.assertEqual(far_on(far_on(state, many), -many), state)

    def test_refused(self):
        for many in [FARTHEST + 1, -FARTHEST - 1, 10 ** 41, HUGE[1], -HUGE[1], HUGE[2], *NO_INTEGERS]:
            raised(BadNumber("many"), far_on, "100", many)
            raised(BadNumber("many"), far_on, many=many, state="11000")
        for value in [*NO_STRINGS, *NO_STATES]:
            for many in (0, 10 ** 40, None):
                raised(BadState("state"), far_on, value, many)


class Loops(unittest.TestCase):
    def test_long_against_walking(self):
        for loops in LOOPS.values():
            for loop in loops:
                for state in loop:
                    self.assertEqual(loop_long(state), len(loop))
                self.assertEqual(loop_long(state=loop[0]), len(loop))

    def test_long_by_period(self):
        for state, (word, _, _) in {**DRAWN, **GREAT}.items():
            self.assertEqual(in_short_time(loop_long, state), 2 * len(told_turns(word)) * len(state))

    def test_loop_of_against_walking(self):
        for pairs in range(1, 6):
            for loop in LOOPS[pairs]:
                for start in range(0, len(loop), 1 if pairs < 4 else 7):
                    self.assertEqual(loop_of(loop[start]), tuple(loop[start:] + loop[:start]))
                self.assertEqual(loop_of(state=loop[0]), tuple(loop))

    def test_great_loops(self):
        # Their loops have 1,604, 3,208, 4,764, 4,970 and 4,704 states.
        words = ["10" * 200, "1100" * 100, "110010" * 66, "1" * 35 + "0" * 35, "1" * 22 + "10" * 2 + "0" * 22]
        for word in words:
            for high in (False, True):
                start = told_state(word, len(word) // 2, high)
                long = 2 * len(told_turns(word)) * len(start)
                self.assertEqual(loop_long(start), long)
                self.assertLessEqual(long, 5000)
                loop = in_short_time(loop_of, start)
                self.assertEqual(len(loop), long)
                self.assertEqual(loop[0], start)
                self.assertEqual(len(set(loop)), long)
                for one, other in zip(loop, [*loop[1:], start]):
                    self.assertEqual(on(one), other)

    def test_too_many(self):
        # Loops of 5,100 and of 5,256 states, and great ones.
        words = ["1" * 23 + "10" * 2 + "0" * 23, "1" * 36 + "0" * 36, "1" * 200 + "0" * 200, *drawn_words("many", 3)]
        for word in words:
            self.assertGreater(2 * len(told_turns(word)) * (len(word) + 1), 5000)
            raised(TooMany("states", 5000), in_short_time, loop_of, told_state(word, 0, False))
            raised(TooMany("states", 5000), loop_of, state=told_state(word, 3, True))

    def test_all_loops_together_are_all_states(self):
        for pairs in range(1, 5):
            states = [state for begin in loop_begins(pairs) for state in loop_of(begin)]
            self.assertEqual(len(states), len(set(states)))
            self.assertEqual(set(states), set(HOMES[pairs]))

    def test_the_words_of_a_loop_draw_one_tree(self):
        for pairs in range(1, 6):
            for loop in LOOPS[pairs]:
                words = {HOMES[pairs][state][0] for state in loop}
                self.assertEqual(words, set(told_turns(min(words))))
                for state in loop:
                    self.assertEqual(tree_at(state), min(words))
                self.assertEqual(tree_at(state=loop[0]), min(words))
        for state, (word, _, _) in GREAT.items():
            self.assertEqual(in_short_time(tree_at, state), min(told_turns(word)))

    def test_loop_begins(self):
        for pairs in range(1, 10):
            begins = in_short_time(loop_begins, pairs)
            self.assertEqual(begins, tuple(told_state(name, 0, False) for name in all_trees(pairs)))
            self.assertEqual(loop_begins(pairs=pairs), begins)
            self.assertEqual(len(begins), how_many_trees(pairs))
        for pairs in range(1, 6):
            self.assertEqual(list(loop_begins(pairs)), sorted(told_state(
                min(told_turns(word)), 0, False) for word in listed_words(pairs) if min(told_turns(word)) == word))
        for value in [0, -1, 10, 11, 200, *HUGE, *NO_INTEGERS]:
            raised(BadNumber("pairs"), loop_begins, value)

    def test_what_is_no_state_is_refused(self):
        for call in OF_ONE_STATE:
            for value in [*NO_STRINGS, *NO_STATES]:
                raised(BadState("state"), call, value)


class StepsOn(unittest.TestCase):
    def test_there_and_back(self):
        for pairs in range(1, 5):
            for loop in LOOPS[pairs]:
                for start in range(0, len(loop), 1 if pairs < 3 else 9):
                    for end, state in enumerate(loop):
                        self.assertEqual(steps_on(loop[start], state), (end - start) % len(loop))
                        self.assertEqual(steps_on(other=loop[start], one=state), (start - end) % len(loop))

    def test_unlike_loops(self):
        for pairs in range(1, 5):
            for loop in LOOPS[pairs]:
                for other in LOOPS[pairs]:
                    if other is not loop:
                        for state in other:
                            self.assertIsNone(steps_on(loop[0], state))
                            self.assertIsNone(steps_on(state, loop[-1]))
        self.assertIsNone(steps_on("10" * 200 + "0", "1" * 200 + "0" * 201))

    def test_great_states(self):
        for state in [*list(DRAWN)[::5], *list(GREAT)[::3]]:
            long = loop_long(state)
            for many in (0, 1, 2, long - 1, long // 3, long // 7):
                self.assertEqual(in_short_time(steps_on, state, far_on(state, many)), many % long)
                self.assertEqual(in_short_time(steps_on, far_on(state, many), state), -many % long)

    def test_states_of_unlike_many_pairs(self):
        for one in ["100", "110", "11000", "11010", "10" * 200 + "0"]:
            for other in ["100", "110", "11000", "11010", "10" * 200 + "0"]:
                if len(one) != len(other):
                    raised(Misfit("other"), steps_on, one, other)

    def test_order_of_errors(self):
        for value in [*NO_STRINGS, *NO_STATES]:
            raised(BadState("one"), steps_on, value, "100")
            raised(BadState("one"), steps_on, value, value)
            raised(BadState("other"), steps_on, "100", value)
            raised(BadState("other"), steps_on, other=value, one="11000")


if __name__ == "__main__":
    unittest.main()
