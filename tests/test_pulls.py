"""Pulls: against words that the tests turn and trees whose places they count."""

import unittest

from everyhalf.errors import BadWord, Misfit
from everyhalf.pulls import can_pull, chosen_word, is_right, pulled, pulls_of, right_pulls, unpulled
from tests.helper import (
    NO_STRINGS, NO_WORDS, drawn_words, in_short_time, listed_words, raised, told_inner, told_least_sum, told_pair,
    told_right, told_ties, told_turns, told_ways,
)

LISTED = {pairs: listed_words(pairs) for pairs in range(1, 8)}
SMALL = [word for words in LISTED.values() for word in words]
DRAWN = drawn_words("pulls", 10, 60)
GREAT = [
    *drawn_words("great pulls", 4), "1" * 200 + "0" * 200, "10" * 200, "1100" * 100, "110010" * 66,
    "11" + "10" * 198 + "00", "110" + "10" * 197 + "0" + "10", "110" + "10" * 98 + "0" + "10" * 100,
    "110" + "10" * 99 + "0" + "10" * 99,
]
OF_ONE_WORD = [can_pull, pulled, unpulled, is_right, pulls_of, right_pulls, chosen_word]


def told_can_pull(word):
    """Whether the word is 1 1 0 u 0 v: its first pair begins with 1 0."""
    return told_pair(word)[0][:2] == "10"


def places_of_first_child(word):
    """How many places are come to by the root's first child, itself counted."""
    ties = told_ties(word)
    from_child = told_ways({place: [to for to in ties[place] if place and to] for place in ties}, 1)
    return len(from_child)


class Pulls(unittest.TestCase):
    def test_can_pull(self):
        for word in [*SMALL, *DRAWN, *GREAT]:
            self.assertIs(can_pull(word), told_can_pull(word), word)
            self.assertIs(can_pull(word=word), told_can_pull(word))

    def test_pulled_and_unpulled(self):
        for word in [*SMALL, *DRAWN, *GREAT]:
            if told_can_pull(word):
                inner, v = told_inner(word), told_pair(word)[1]
                self.assertEqual(word, "110" + inner + "0" + v)
                self.assertEqual(pulled(word), "101" + inner + "0" + v)
                self.assertEqual(unpulled(pulled(word=word)), word)
                raised(Misfit("word"), unpulled, word)
            elif word.startswith("101"):
                self.assertEqual(pulled(unpulled(word=word)), word)
                self.assertTrue(told_can_pull(unpulled(word)))
                raised(Misfit("word"), pulled, word)
            else:
                raised(Misfit("word"), pulled, word)
                raised(Misfit("word"), unpulled, word)

    def test_a_leaf_comes_up_to_the_root(self):
        for word in SMALL:
            if told_can_pull(word):
                ties, behind = told_ties(word), told_ties(pulled(word))
                # In the word place 2 is the leaf, 1 the first child; in the word pulled they change names.
                self.assertEqual(ties[2], [1])
                self.assertEqual(behind[1], [0])
                self.assertEqual(ties[0][1:], behind[0][2:])
                self.assertEqual(ties[1][2:], behind[2][1:])
                for place in list(ties)[3:]:
                    self.assertEqual([{1: 2}.get(up, up) for up in ties[place]], behind[place])

    def test_words_of_one_pair_do_neither(self):
        self.assertIs(can_pull("10"), False)
        self.assertIs(is_right("10"), False)
        self.assertEqual(pulls_of("10"), ())
        raised(Misfit("word"), pulled, "10")
        raised(Misfit("word"), unpulled, "10")


class Right(unittest.TestCase):
    def test_by_places_that_are_counted(self):
        for word in [*SMALL, *DRAWN, *GREAT]:
            right = told_can_pull(word) and 2 * places_of_first_child(word) <= len(word) // 2 + 1
            self.assertIs(is_right(word), right, word)
            self.assertIs(is_right(word=word), told_right(word), word)

    def test_a_right_pull_lowers_the_least_sum_by_just_1(self):
        for word in [*SMALL, *DRAWN]:
            if is_right(word):
                self.assertEqual(told_least_sum(pulled(word)), told_least_sum(word) - 1)

    def test_pulls_that_are_not_right_may_not_lower_it(self):
        self.assertEqual(told_least_sum(pulled("1100")), told_least_sum("1100"))
        self.assertEqual(told_least_sum(pulled("110100")), told_least_sum("110100") + 1)


class OfATree(unittest.TestCase):
    def test_for_each_word_of_a_tree(self):
        for word in [*SMALL, *DRAWN]:
            turns = told_turns(word)
            pulls = tuple(sorted(each for each in turns if told_can_pull(each)))
            rights = tuple(each for each in pulls if told_right(each))
            self.assertEqual(pulls_of(word), pulls)
            self.assertEqual(right_pulls(word), rights)
            self.assertEqual(chosen_word(word), rights[0] if rights else None)
        for word in SMALL:
            self.assertEqual(pulls_of(word=word), pulls_of(word))
            self.assertEqual(right_pulls(word=word), right_pulls(word))
            self.assertEqual(chosen_word(word=word), chosen_word(word))

    def test_just_the_star_has_no_chosen_word(self):
        for pairs, words in LISTED.items():
            without = [word for word in words if chosen_word(word) is None]
            self.assertEqual(without, [word for word in words if told_least_sum(word) == pairs])
            self.assertEqual(set(without), set(told_turns("10" * pairs)))
            self.assertTrue(all(right_pulls(word) == () for word in without))

    def test_great_words(self):
        for word in GREAT:
            turns = told_turns(word)
            pulls = tuple(sorted(each for each in turns if told_can_pull(each)))
            rights = tuple(each for each in pulls if told_right(each))
            self.assertEqual(in_short_time(pulls_of, word), pulls)
            self.assertEqual(in_short_time(right_pulls, word), rights)
            self.assertEqual(in_short_time(chosen_word, word), rights[0] if rights else None)
            self.assertEqual(rights == (), word == "10" * 200)


class Refused(unittest.TestCase):
    def test_what_is_no_word(self):
        for call in OF_ONE_WORD:
            for value in [*NO_STRINGS, *NO_WORDS]:
                raised(BadWord("word"), call, value)
                raised(BadWord("word"), call, word=value)


if __name__ == "__main__":
    unittest.main()
