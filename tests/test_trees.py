"""Trees: against what the tests work out by walking along the word and going out from each place."""

import random
import unittest
from itertools import product

from everyhalf.errors import BadNumber, BadTree, BadWord
from everyhalf.trees import around, leaves, least_sum, middles, ups_of, ways_from, word_of
from tests.helper import (
    HUGE, NO_INTEGERS, NO_STRINGS, NO_WORDS, drawn_words, in_short_time, listed_words, raised, told_ties, told_ways,
    told_word,
)

SMALL = [word for pairs in range(1, 7) for word in listed_words(pairs)]
DRAWN = drawn_words("trees", 14)
LINES = ["1" * pairs + "0" * pairs for pairs in (7, 8, 60, 199, 200)]
STARS = ["10" * pairs for pairs in (7, 8, 60, 199, 200)] + ["1" + "10" * 199 + "0"]
WORDS = [*SMALL, *DRAWN, *LINES, *STARS]
OF_ONE_WORD = [ups_of, ways_from, least_sum, middles, leaves]


def told_ups(word):
    ties = told_ties(word)
    return tuple(ties[place][0] for place in range(1, len(ties)))


def told_sums(word):
    ties = told_ties(word)
    return tuple(sum(told_ways(ties, place).values()) for place in range(len(ties)))


class Ups(unittest.TestCase):
    def test_ups_of(self):
        for word in WORDS:
            self.assertEqual(ups_of(word), told_ups(word))
            self.assertIs(type(ups_of(word)), tuple)

    def test_ups_of_and_word_of_undo_one_another(self):
        for word in WORDS:
            self.assertEqual(word_of(ups_of(word)), word)
            self.assertEqual(word_of(list(ups_of(word))), word)
            self.assertEqual(word_of(ups=ups_of(word)), word)

    def test_all_short_lists(self):
        words = {told_ups(word): word for word in SMALL}
        for pairs in range(1, 6):
            for ups in product(range(-1, pairs + 1), repeat=pairs):
                if ups in words:
                    self.assertEqual(word_of(ups), words[ups])
                else:
                    raised(BadTree("ups"), word_of, ups)
                    raised(BadTree("ups"), word_of, list(ups))

    def test_drawn_lists_with_one_place_changed(self):
        draw = random.Random("ups")
        for word in DRAWN:
            ups = list(told_ups(word))
            for _ in range(20):
                at, up = draw.randrange(len(ups)), draw.randint(-1, len(ups))
                other = [*ups[:at], up, *ups[at + 1:]]
                try:
                    found = word_of(other)
                except BadTree as error:
                    self.assertEqual(error.part, "ups")
                    self.assertFalse(up == at)
                    continue
                self.assertTrue(told_word(found))
                self.assertEqual(told_ups(found), tuple(other))

    def test_how_long_a_list_may_be(self):
        for ups in [range(200), [0] * 200, [0] + [1] * 199, [0, 1] * 100, [0], (0,)]:
            ups = list(ups)
            if ups[:4] == [0, 1, 0, 1]:
                raised(BadTree("ups"), word_of, ups)
            else:
                self.assertEqual(told_ups(word_of(ups)), tuple(ups))
        for ups in [[], (), list(range(201)), [0] * 201, (0,) * 201, [0] * 10 ** 6]:
            raised(BadTree("ups"), word_of, ups)

    def test_what_is_no_list_of_integers(self):
        for value in [*NO_INTEGERS, *HUGE, -1, -HUGE[1], 3]:
            for ups in ([value], [0, value], (0, 1, value), [0, 1, value, 0], [0] * 199 + [value]):
                raised(BadTree("ups"), word_of, ups)
        for value in [*NO_INTEGERS, *NO_STRINGS, *HUGE, 0, "0", range(2), {0: 0}, {0}, iter([0]), b"\0", "10"]:
            raised(BadTree("ups"), word_of, value)
            raised(BadTree("ups"), word_of, ups=value)

    def test_a_truth_is_no_place(self):
        for ups in ([False], [0, True], [0, False], (0, 1, True), [0.0], [0, 1.0]):
            raised(BadTree("ups"), word_of, ups)


class Around(unittest.TestCase):
    def test_each_place(self):
        for word in [*SMALL, *DRAWN[2:], "1" * 20 + "0" * 20, "10" * 20]:
            ties = told_ties(word)
            for place in ties:
                self.assertEqual(around(word, place), tuple(ties[place]))
                self.assertEqual(around(place=place, word=word), tuple(ties[place]))

    def test_each_place_of_the_greatest_words(self):
        for word in [DRAWN[0], "1" * 200 + "0" * 200, "10" * 200, "1" + "10" * 199 + "0"]:
            ties = told_ties(word)
            for place in [0, 1, 2, 99, 100, 199, 200]:
                self.assertEqual(in_short_time(around, word, place), tuple(ties[place]))

    def test_no_place(self):
        for word in ["10", "110010", "10" * 200]:
            for place in [len(word) // 2 + 1, len(word), -1, -2, *HUGE, -HUGE[0], *NO_INTEGERS]:
                raised(BadNumber("place"), around, word, place)
                raised(BadNumber("place"), around, place=place, word=word)

    def test_the_word_is_looked_at_first(self):
        for value in [*NO_STRINGS, *NO_WORDS]:
            for place in (0, -1, 1000, None, True):
                raised(BadWord("word"), around, value, place)


class Sums(unittest.TestCase):
    def test_against_going_out_from_each_place(self):
        for word in WORDS:
            sums = told_sums(word)
            self.assertEqual(ways_from(word), sums)
            self.assertEqual(least_sum(word), min(sums))
            self.assertEqual(middles(word), tuple(place for place in range(len(sums)) if sums[place] == min(sums)))

    def test_facts_of_the_least_sum(self):
        for word in WORDS:
            pairs = len(word) // 2
            is_star = max(len(tied) for tied in told_ties(word).values()) == pairs
            self.assertEqual(least_sum(word) == pairs, is_star)
            self.assertLessEqual(least_sum(word), (pairs + 1) ** 2 // 4)
        for word in LINES:
            self.assertEqual(least_sum(word), (len(word) // 2 + 1) ** 2 // 4)


class Leaves(unittest.TestCase):
    def test_places_with_one_tie(self):
        for word in WORDS:
            ties = told_ties(word)
            self.assertEqual(leaves(word), tuple(place for place in ties if len(ties[place]) == 1))


class AllOfOneWord(unittest.TestCase):
    def test_by_name(self):
        for call in OF_ONE_WORD:
            for word in SMALL:
                self.assertEqual(call(word=word), call(word))

    def test_tuples(self):
        for call in (ups_of, ways_from, middles, leaves):
            self.assertIs(type(call("110010")), tuple)
        self.assertIs(type(around("110010", 0)), tuple)

    def test_what_is_no_word_is_refused(self):
        for call in OF_ONE_WORD:
            for value in [*NO_STRINGS, *NO_WORDS]:
                raised(BadWord("word"), call, value)

    def test_short_time(self):
        for call in OF_ONE_WORD:
            for word in [DRAWN[0], LINES[-1], STARS[-2], STARS[-1]]:
                in_short_time(call, word)
        for word in [DRAWN[0], LINES[-1], STARS[-2], STARS[-1]]:
            in_short_time(word_of, ups_of(word))


if __name__ == "__main__":
    unittest.main()
