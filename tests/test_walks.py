"""Walks: against the tests' own judging, of lists that are spoilt at any place, and of whole rounds sewn anew."""

import heapq
import random
import unittest

from everyhalf.check_walks import shows_round, shows_walk
from everyhalf.errors import BadWalk
from everyhalf.papers import Denial, Paper
from everyhalf.rounds import stretch
from everyhalf.walks import Broken, Lacks, Walk, Whole, judged_round, judged_walk
from tests.helper import (
    HUGE, NO_INTEGERS, NO_STATES, NO_STRINGS, Odd, in_short_time, listed_states, raised, told_chosen_words,
    told_is_state, told_order, told_round,
)

STATES = {pairs: listed_states(pairs) for pairs in range(1, 7)}
WHOLE = {
    pairs: told_order(told_round(pairs, told_chosen_words(pairs)), "1" * pairs + "0" * (pairs + 1))
    for pairs in range(1, 5)
}
NO_LISTS = [*NO_STRINGS, *NO_INTEGERS, "100", "100 110", {"100": 1}, {"100"}, range(6)]
JUDGED = [judged_walk, judged_round]


def apart(one, other):
    return sum(sign != another for sign, another in zip(one, other))


def told_walk(states):
    """The class and the parts of the paper on the list as a walk, told index by index as [13] tells it."""
    for at, value in enumerate(states):
        if not told_is_state(value) or len(value) != len(states[0]):
            return Broken, (at, "state")
        if at > 0 and apart(states[at - 1], value) != 1:
            return Broken, (at, "switch")
        if value in states[:at]:
            return Broken, (at, "again")
    return Walk, (len(states),)


def told_whole(states):
    """The class and the parts of the paper on the list as a whole walk."""
    made, parts = told_walk(states)
    if made is Broken:
        return made, parts
    for state in ascending(len(states[0]) // 2):
        if state not in states:
            return Lacks, (state,)
    return (Whole, (len(states),)) if apart(states[0], states[-1]) == 1 else (Broken, (0, "switch"))


def with_as_many(number, lamps):
    """From a number on all of so many binary digits that have as many ones, ascending."""
    while number < 1 << lamps:
        yield number
        low = number & -number
        high = number + low
        number = high | ((number ^ high) // low >> 2)


def ascending(pairs):
    """All states of so many pairs, ascending, one by one."""
    lamps = 2 * pairs + 1
    low, high = ((1 << burning) - 1 for burning in (pairs, pairs + 1))
    for number in heapq.merge(with_as_many(low, lamps), with_as_many(high, lamps)):
        yield f"{number:0{lamps}b}"


def near(state):
    """The states that differ from this one in one lamp."""
    found = [state[:at] + "10"[int(state[at])] + state[at + 1:] for at in range(len(state))]
    return [other for other in found if told_is_state(other)]


def drawn_walk(draw, pairs, long):
    """A walk of at most so many states, drawn step by step."""
    walk = [draw.choice(STATES[pairs])]
    while len(walk) < long:
        ways_on = [state for state in near(walk[-1]) if state not in walk]
        if not ways_on:
            break
        walk.append(draw.choice(ways_on))
    return walk


def spoilt(draw, walk, at):
    """The walk with other values at this index: no state, one of other lamps, two switches, none, a state twice."""
    other = draw.choice([value for value in [*NO_STRINGS, *NO_STATES] if not isinstance(value, Odd)])
    longer = draw.choice(STATES[2 if len(walk[0]) == 3 else 1])
    far = draw.choice(STATES[len(walk[0]) // 2])
    for value in [other, [walk[at]], None, longer, walk[at] + "0", far, walk[at - 1], walk[0], walk[-1]]:
        yield [*walk[:at], value, *walk[at + 1:]]
        yield [*walk[:at], value, *walk[at:]]
    yield [*walk[:at], *walk[at + 1:]]
    yield [*walk[:at + 1], *walk[max(at - 1, 0):]]
    yield [*walk[:at + 1], *reversed(walk[:at])]
    yield [*walk[:at + 1], Odd(), *walk[at:]]
    yield [Odd(), *walk[at:]]


def sewn_anew(draw, order):
    """Walks of the same states: some of the end turned round, where its new beginning is a switch away."""
    for _ in range(12):
        at = draw.choice([at for at in range(len(order) - 2) if apart(order[at], order[-1]) == 1])
        order = order[:at + 1] + order[:at:-1]
        yield order


class Judged(unittest.TestCase):
    def check(self, states):
        told = [(judged_walk, shows_walk, told_walk(states)), (judged_round, shows_round, told_whole(states))]
        for given in (list(states), tuple(states)):
            for call, shows, (made, parts) in told:
                paper = call(given)
                self.assertIs(type(paper), made)
                self.assertEqual(paper.parts, parts)
                self.assertIs(bool(paper), made in (Walk, Whole))
                self.assertEqual(call(states=given), paper)
                self.assertIs(shows(given, paper), True)
                self.assertIs(shows(value=made(*parts), states=given), True)

    def test_all_lists_of_one_and_two_states(self):
        for pairs in (1, 2):
            for one in STATES[pairs]:
                self.check([one])
                for other in STATES[pairs]:
                    self.check([one, other])

    def test_walks_and_spoilt_ones(self):
        draw = random.Random("walks")
        seen = set()
        for pairs in range(1, 7):
            for _ in range(12):
                walk = drawn_walk(draw, pairs, draw.randint(1, 9))
                self.check(walk)
                for at in range(len(walk)):
                    for states in spoilt(draw, walk, at):
                        if states:
                            self.check(states)
                            made, parts = told_walk(states)
                            seen.add(parts[-1] if made is Broken else made)
        self.assertEqual(seen, {"state", "switch", "again", Walk})

    def test_the_first_of_many_faults(self):
        for states, at, why in [
            (["100", None, "100", "111"], 1, "state"),
            (["100", "100", None], 1, "switch"),
            (["100", "110", "100", None], 2, "again"),
            (["100", "110", "101", "100"], 2, "switch"),
            ([None, None], 0, "state"),
            (["11000", "100", "110"], 1, "state"),
            (["111", "110", "100"], 0, "state"),
            (["100", "110", "11000"], 2, "state"),
            (["100", "1000", "110"], 1, "state"),
        ]:
            self.assertEqual(judged_walk(states), Broken(at, why))
            self.assertEqual(judged_round(states), Broken(at, why))

    def test_whole_rounds(self):
        for pairs, order in WHOLE.items():
            for at in {0, 1, 3, len(order) // 2, len(order) - 1}:
                states = order[at:] + order[:at]
                self.assertEqual(in_short_time(judged_round, states), Whole(len(order)))
                self.assertEqual(judged_round(states[::-1]), Whole(len(order)))
                self.assertEqual(judged_walk(states), Walk(len(order)))
                self.assertEqual(judged_round([*states, states[0]]), Broken(len(order), "again"))
            self.check(order)

    def test_rounds_that_are_cut(self):
        draw = random.Random("cut")
        for pairs, order in WHOLE.items():
            for _ in range(12):
                start, end = sorted(draw.sample(range(len(order) + 1), 2))
                self.check(order[start:end])
                self.check(order[:start] + order[end:] or order)
                self.check(order[start:] + order[:start])
                self.check((order[start:] + order[:start])[:-1])
                self.check((order[start:] + order[:start])[::-1][1:])

    def test_rounds_that_are_sewn_anew(self):
        draw = random.Random("sewn")
        seen = []
        for pairs, order in WHOLE.items():
            for states in sewn_anew(draw, order):
                self.check(states)
                seen.append(type(judged_round(states)))
        self.assertIn(Whole, seen)
        self.assertIn(Broken, seen)

    def test_all_states_but_no_switch_from_the_last_one_to_the_first(self):
        draw = random.Random("open")
        states = next(each for each in sewn_anew(draw, WHOLE[2]) if apart(each[0], each[-1]) != 1)
        self.assertEqual(judged_walk(states), Walk(20))
        self.assertEqual(judged_round(states), Broken(0, "switch"))
        self.assertEqual(judged_round(states[:-1]), Lacks(states[-1]))

    def test_the_least_state_that_lacks(self):
        for pairs in (5, 6, 20, 199, 200):
            zeros, ones = "0" * pairs, "1" * pairs
            least, both, other = zeros + "0" + ones, zeros + "1" + ones, zeros + "10" + ones[1:]
            for states in ([least], [both], [least, both], [other, both], [least, both, other], [ones + zeros + "0"]):
                self.assertEqual(in_short_time(judged_round, states), Lacks(told_whole(states)[1][0]))
            self.assertEqual(judged_round([least, both, other]).state, zeros + "110" + ones[2:])

    def test_walks_of_most_states(self):
        for pairs in (3, 4, 5):
            for state in STATES[pairs][::97]:
                order = list(stretch(state, 1000))[:len(STATES[pairs]) - 1]
                self.assertEqual(judged_round(order), Lacks(state))


class Great(unittest.TestCase):
    def test_5000_values(self):
        walk = ["1" * 200 + "0" * 201]
        while len(walk) < 5000:
            walk.extend(stretch(walk[-1], 1000))
        walk = walk[:5000]
        self.assertEqual(in_short_time(judged_walk, walk), Walk(5000))
        self.assertEqual(in_short_time(judged_round, walk), Lacks("0" * 201 + "1" * 200))
        self.assertTrue(in_short_time(shows_walk, walk, Walk(5000)))
        self.assertTrue(in_short_time(shows_round, walk, Lacks("0" * 201 + "1" * 200)))
        for at in (0, 1, 2500, 4999):
            self.assertEqual(judged_walk([*walk[:at], None, *walk[at + 1:]]), Broken(at, "state"))
        self.assertEqual(judged_round([*walk[:-1], walk[-3]]), Broken(4999, "again"))
        self.assertEqual(judged_round([*walk[:-1], walk[0]]), Broken(4999, "switch"))

    def test_whole_rounds_of_five_and_six_pairs(self):
        for pairs in (5, 6):
            order = ["1" * pairs + "0" * (pairs + 1)]
            while len(order) < len(STATES[pairs]):
                order.extend(stretch(order[-1], min(1000, len(STATES[pairs]) - len(order))))
            self.assertEqual(in_short_time(judged_round, order), Whole(len(order)))
            for at in (0, 7, 600):
                self.assertEqual(judged_round(order[at + 1:] + order[:at]), Lacks(order[at]))

    def test_other_values(self):
        for many in (1, 2, 4999, 5000):
            self.assertEqual(judged_walk([None] * many), Broken(0, "state"))
            self.assertEqual(judged_round(("x",) * many), Broken(0, "state"))
            self.assertTrue(shows_round([Odd()] * many, Broken(0, "state")))


class Shown(unittest.TestCase):
    LISTS = [
        WHOLE[1], WHOLE[2], WHOLE[1][:4], WHOLE[2][:1], ["100"], ["100", "010"], ["100", "110", "100"], ["111"], [None],
        ["100", "11000"], ["100", "110", None], [Odd(), "100"],
    ]

    def test_bent_papers(self):
        numbers = [0, 1, 2, 3, 4, 5, 6, 19, 20, 21, -1, *HUGE, True, False, None, 1.0, 6.0, "6", [6], Odd()]
        words = ["state", "switch", "again", "", "State", "whole", None, 1, ["state"], Odd()]
        rows = ["100", "001", "011", "101", "00011", "00101", None, 1, "", ["001"], "0" * 201 + "1" * 200, Odd()]
        papers = [made(number) for made in (Walk, Whole) for number in numbers]
        papers += [Broken(at, why) for at in numbers for why in words]
        papers += [Lacks(row) for row in rows]
        kinds = [int, str]
        for states in self.LISTS:
            for shows, (made, parts) in [(shows_walk, told_walk(states)), (shows_round, told_whole(states))]:
                for paper in papers:
                    same = type(paper) is made and all(type(part) in kinds for part in paper.parts)
                    self.assertIs(shows(states, paper), same and paper.parts == parts)

    def test_values_that_are_no_papers_and_papers_of_other_classes(self):
        for states in self.LISTS:
            for shows, (made, parts) in [(shows_walk, told_walk(states)), (shows_round, told_whole(states))]:
                right = made(*parts)
                below = type(made.__name__, (made,), {})
                others = [
                    parts, list(parts), right.word, made, states, below(*parts), Paper(right.word, *parts),
                    Denial(right.word, *parts), Paper("walk", 6), BadWalk("states"), (right.word, parts),
                ]
                for value in [*NO_STRINGS, *NO_INTEGERS, *HUGE, *others]:
                    self.assertIs(shows(states, value), False)

    def test_the_paper_of_the_other_function(self):
        order = WHOLE[2]
        self.assertFalse(shows_walk(order, Whole(20)))
        self.assertFalse(shows_round(order, Walk(20)))
        self.assertFalse(shows_walk(order[:5], judged_round(order[:5])))
        self.assertTrue(shows_round(order[:5] + order[:1], judged_walk(order[:5] + order[:1])))

    def test_other_states_that_lack(self):
        states = WHOLE[2][:9]
        lacking = [state for state in STATES[2] if state not in states]
        for state in STATES[2]:
            self.assertIs(shows_round(states, Lacks(state)), state == lacking[0])


class Refused(unittest.TestCase):
    def test_what_is_no_list(self):
        for value in NO_LISTS:
            if not isinstance(value, (list, tuple)) or not value:
                for call in JUDGED:
                    raised(BadWalk("states"), call, value)
                    raised(BadWalk("states"), call, states=value)
                for call in (shows_walk, shows_round):
                    for paper in (Walk(1), None, Broken(0, "state")):
                        raised(BadWalk("states"), call, value, paper)
                        raised(BadWalk("states"), call, value=paper, states=value)

    def test_how_many(self):
        for states in ([], (), [None] * 5001, ("100",) * 5001, ["100"] * 100000):
            for call in JUDGED:
                raised(BadWalk("states"), in_short_time, call, states)
            for call in (shows_walk, shows_round):
                raised(BadWalk("states"), in_short_time, call, states, Broken(0, "state"))

    def test_what_is_passed_is_not_changed(self):
        states = ["100", [1], "110"]
        judged_walk(states)
        judged_round(states)
        self.assertEqual(states, ["100", [1], "110"])


if __name__ == "__main__":
    unittest.main()
