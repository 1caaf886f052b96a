"""Reasons: against partners and rings that the tests reckon."""

import unittest

from everyhalf.errors import BadState
from everyhalf.papers import Denial, Paper
from everyhalf.reasons import Tie, backward_at, why_next
from tests.helper import (
    NO_STATES, NO_STRINGS, drawn_words, in_short_time, raised, told_chosen, told_chosen_words, told_homes,
    told_reason, told_ring, told_round, told_state, told_stretch, told_turned, told_turns,
)

CHOSEN = {pairs: told_chosen_words(pairs) for pairs in range(1, 6)}


class WhyNext(unittest.TestCase):
    def test_all_states_of_one_to_five_pairs(self):
        for pairs, pulls in CHOSEN.items():
            homes = told_homes(pairs)
            kinds = []
            for state, behind in told_round(pairs, pulls).items():
                tie = why_next(state)
                self.assertEqual(tie.parts, told_reason(state, behind, homes, pulls))
                self.assertEqual((tie.kind, tie.by), tie.parts)
                self.assertEqual(why_next(state=state), tie)
                kinds.append(tie.kind)
            # Each of three ties of a ring comes once; and by all of them next is told.
            self.assertEqual(kinds.count("ring"), 3 * len(pulls))

    def test_great_states(self):
        words = [*drawn_words("reasons", 4), "1" * 200 + "0" * 200, "1100" * 100]
        for word in words:
            pull = told_chosen(word)
            x_low, y_high, y_low, z, a, x_high = told_ring(pull)
            for state in (x_low, y_low, x_high):
                self.assertEqual(in_short_time(why_next, state), Tie("ring", pull))
            turns = told_turns(pull) * 5
            self.assertEqual(why_next(y_high), Tie("last", told_turned("101" + pull[3:])))
            self.assertEqual(why_next(z), Tie("turn", turns[3]))
            self.assertEqual(why_next(a), Tie("turn", turns[3]))
            self.assertEqual(why_next(told_state(turns[2], 2, False)), Tie("last", turns[2]))
            self.assertEqual(why_next(told_state(turns[2], 2, True)), Tie("turn", turns[2]))
            self.assertEqual(why_next(told_state(turns[1], 1, False)), Tie("last", turns[1]))
            self.assertEqual(why_next(told_state(turns[4], 4, True)), Tie("last", turns[4]))

    def test_what_is_no_state_is_refused(self):
        for value in [*NO_STRINGS, *NO_STATES]:
            raised(BadState("state"), why_next, value)
            raised(BadState("state"), why_next, state=value)


class BackwardAt(unittest.TestCase):
    def test_all_states_of_one_to_five_pairs(self):
        for pairs, pulls in CHOSEN.items():
            stretches = {state: pull for pull in pulls for state in told_stretch(pull)}
            self.assertEqual(len(stretches), 5 * len(pulls))
            for state in told_homes(pairs):
                self.assertEqual(backward_at(state), stretches.get(state))
                self.assertEqual(backward_at(state=state), stretches.get(state))

    def test_great_states(self):
        for word in [*drawn_words("backward", 4), "1" * 200 + "0" * 200, "1100" * 100]:
            pull = told_chosen(word)
            for state in told_stretch(pull):
                self.assertEqual(in_short_time(backward_at, state), pull)
            turns = told_turns(pull) * 5
            for shift, high in [(0, 0), (0, 1), (3, 0), (4, 0), (4, 1)]:
                self.assertIsNone(in_short_time(backward_at, told_state(turns[shift], shift, high)))

    def test_what_is_no_state_is_refused(self):
        for value in [*NO_STRINGS, *NO_STATES]:
            raised(BadState("state"), backward_at, value)
            raised(BadState("state"), backward_at, state=value)


class Ties(unittest.TestCase):
    def test_a_right_paper(self):
        tie = why_next("1100100")
        self.assertIs(type(tie), Tie)
        self.assertEqual(Tie.__bases__, (Paper,))
        self.assertNotIsInstance(tie, Denial)
        self.assertIs(bool(tie), True)
        self.assertEqual((tie.word, tie.parts), ("tie", ("ring", "110010")))
        self.assertIs(type(tie.parts), tuple)
        self.assertIn("__init__", vars(Tie))

    def test_by_place_or_by_name_any_values(self):
        tie = Tie(by=[1, ["2", (3, [4])]], kind={"a": [1]})
        self.assertEqual(tie.kind, {"a": [1]})
        self.assertEqual(tie.by, (1, ("2", (3, (4,)))))
        self.assertEqual(tie.parts, ({"a": [1]}, (1, ("2", (3, (4,))))))
        self.assertEqual(tie.word, "tie")
        self.assertEqual(Tie(None, True).parts, (None, True))
        for parts in [(), ("ring",), ("ring", "110010", 1)]:
            with self.assertRaises(TypeError):
                Tie(*parts)

    def test_equal_exactly_if_class_word_and_parts_are(self):
        self.assertTrue(Tie("ring", ["a"]) == Tie("ring", ("a",)))
        for other in [Tie("ring", "b"), Tie("turn", "a"), Paper("tie", "ring", "a"), ("ring", "a"), None, "tie"]:
            self.assertFalse(Tie("ring", "a") == other)
            self.assertTrue(Tie("ring", "a") != other)
            self.assertFalse(other == Tie("ring", "a"))

    def test_bool_of_all_ties_is_true(self):
        self.assertTrue(all([Tie(None, None), Tie("", ""), Tie(0, False)]))


if __name__ == "__main__":
    unittest.main()
