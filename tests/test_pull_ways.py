"""The tree of all trees: against the tests' own pulls, turns and sums."""

import unittest

from everyhalf.errors import BadNumber, BadWord
from everyhalf.pull_ways import chosen_ways, chosen_words, pulled_into, way_to_star
from everyhalf.tree_names import all_trees, how_many_trees
from tests.helper import (
    HUGE, NO_INTEGERS, NO_STRINGS, NO_WORDS, drawn_words, in_short_time, listed_words, raised, told_chosen,
    told_chosen_words, told_least_sum, told_right, told_turns,
)

LISTED = {pairs: listed_words(pairs) for pairs in range(1, 7)}
SMALL = [word for words in LISTED.values() for word in words]
OF_ONE_WORD = [chosen_ways, way_to_star, pulled_into]


def told_way(word):
    """The chosen words from the tree of the word to the star."""
    way, chosen = [], told_chosen(word)
    while chosen is not None:
        way.append(chosen)
        chosen = told_chosen("101" + chosen[3:])
    return tuple(way)


def told_names(word):
    return tuple(min(told_turns(each)) for each in (word, *["101" + chosen[3:] for chosen in told_way(word)]))


def told_into(word):
    """The names of the trees pulled into that of the word: by all unpulled words of its tree."""
    unpulled = ["110" + each[3:] for each in told_turns(word) if each[:3] == "101"]
    return tuple(sorted(min(told_turns(each)) for each in unpulled if told_chosen(each) == each))


class Ways(unittest.TestCase):
    def test_all_words_of_one_to_six_pairs(self):
        for word in SMALL:
            self.assertEqual(chosen_ways(word), told_way(word))
            self.assertEqual(way_to_star(word), told_names(word))
            self.assertEqual(chosen_ways(word=word), told_way(word))
            self.assertEqual(way_to_star(word=word), told_names(word))

    def test_as_many_pulls_as_the_least_sum_is_above_the_ties(self):
        for word in [*SMALL, *drawn_words("sums", 12, 16)]:
            above = told_least_sum(word) - len(word) // 2
            self.assertEqual(len(chosen_ways(word)), above)
            self.assertEqual(len(way_to_star(word)), above + 1)

    def test_from_the_own_tree_to_the_star(self):
        for word in [*SMALL, *drawn_words("stars", 6, 20)]:
            names = way_to_star(word)
            self.assertEqual(names[0], min(told_turns(word)))
            self.assertEqual(names[-1], "10" * (len(word) // 2))
            self.assertEqual(len(set(names)), len(names))
            for name, chosen in zip(names, chosen_ways(word)):
                self.assertEqual(min(told_turns(chosen)), name)
                self.assertTrue(told_right(chosen))

    def test_the_same_for_all_words_of_a_tree(self):
        for word in drawn_words("one tree", 4, 12):
            for each in told_turns(word):
                self.assertEqual(chosen_ways(each), chosen_ways(word))
                self.assertEqual(way_to_star(each), way_to_star(word))

    def test_short_time(self):
        # Names, times pairs, of at most 4,000: a line of 25 ties has 145 names, the others few.
        almost_stars = [
            "1" + "10" * 18 + "0" + "10" * 181, "1100" * 9 + "10" * 182, "1110" + "0010" + "10" * 196,
            "10" * 100 + "11" + "01" * 9 + "00" + "10" * 89,
        ]
        for word in ["1" * 25 + "0" * 25, "1" * 24 + "0" * 24, "10" * 200, *almost_stars]:
            names = in_short_time(way_to_star, word)
            self.assertLessEqual(len(word) // 2 * len(names), 4000)
            self.assertEqual(names[-1], "10" * (len(word) // 2))
            ways = in_short_time(chosen_ways, word)
            self.assertEqual(len(ways), len(names) - 1)
            self.assertEqual(len(ways), told_least_sum(word) - len(word) // 2)
            self.assertEqual(ways[:3], told_way(word)[:3])


class PulledInto(unittest.TestCase):
    def test_all_words_of_one_to_six_pairs(self):
        for word in SMALL:
            self.assertEqual(pulled_into(word), told_into(word))
            self.assertEqual(pulled_into(word=word), told_into(word))

    def test_each_tree_but_the_star_is_pulled_into_one_tree(self):
        for pairs in range(1, 9):
            names = [name for tree in all_trees(pairs) for name in pulled_into(tree)]
            self.assertEqual(sorted(names), [name for name in all_trees(pairs) if name != "10" * pairs])
            for tree in all_trees(pairs):
                for name in pulled_into(tree):
                    self.assertEqual(way_to_star(name)[1], tree)

    def test_short_time_with_up_to_40_pairs(self):
        words = [*drawn_words("into", 8, 40), "10" * 40, "11" + "10" * 38 + "00", "1" * 40 + "0" * 40, "1100" * 20]
        for word in words:
            self.assertEqual(in_short_time(pulled_into, word), told_into(word))


class ChosenWords(unittest.TestCase):
    def test_one_to_six_pairs(self):
        for pairs in LISTED:
            self.assertEqual(chosen_words(pairs), tuple(sorted(told_chosen_words(pairs))))
            self.assertEqual(chosen_words(pairs=pairs), chosen_words(pairs))

    def test_one_for_each_tree_but_the_star(self):
        for pairs in range(1, 10):
            words = in_short_time(chosen_words, pairs)
            self.assertIs(type(words), tuple)
            self.assertEqual(len(words), how_many_trees(pairs) - 1)
            self.assertEqual(list(words), sorted(set(words)))
            trees = {min(told_turns(word)) for word in words}
            self.assertEqual(trees, set(all_trees(pairs)) - {"10" * pairs})
            self.assertEqual([told_chosen(word) for word in words[::9]], list(words[::9]))

    def test_refused(self):
        for value in [0, -1, 10, 11, 200, *HUGE, *NO_INTEGERS]:
            raised(BadNumber("pairs"), chosen_words, value)
            raised(BadNumber("pairs"), chosen_words, pairs=value)


class Refused(unittest.TestCase):
    def test_what_is_no_word(self):
        for call in OF_ONE_WORD:
            for value in [*NO_STRINGS, *NO_WORDS]:
                raised(BadWord("word"), call, value)
                raised(BadWord("word"), call, word=value)


if __name__ == "__main__":
    unittest.main()
