"""Names of trees, and how many there are."""

import unittest
from fractions import Fraction
from math import comb, gcd

from everyhalf.errors import BadNumber, BadWord, Misfit
from everyhalf.tree_names import all_trees, are_one_tree, how_many_trees, line, mirrored_tree, name_of, star
from tests.helper import (
    HUGE, NO_INTEGERS, NO_STRINGS, NO_WORDS, drawn_words, in_short_time, listed_words, raised, told_ties, told_turned,
    told_turns,
)

LISTED = {pairs: listed_words(pairs) for pairs in range(1, 7)}
SMALL = [word for words in LISTED.values() for word in words]
DRAWN = drawn_words("names", 10, 60)
GREAT = [*drawn_words("great", 3), "1" * 200 + "0" * 200, "10" * 200, "1100" * 100]
NO_PAIRS = [0, -1, 201, 10 ** 6, -(10 ** 400), *HUGE, *NO_INTEGERS]


def told_count(ties):
    """How many trees there are, as the facts of [5] count them."""
    def words(pairs):
        return comb(2 * pairs, pairs) // (pairs + 1)

    def coprime(many):
        return sum(1 for each in range(1, many + 1) if gcd(each, many) == 1)

    divisors = [d for d in range(1, ties + 1) if ties % d == 0]
    with_place = Fraction(sum(coprime(ties // d) * comb(2 * d, d) for d in divisors), 2 * ties)
    with_tie = Fraction(words(ties) + (words((ties - 1) // 2) if ties % 2 else 0), 2)
    return with_place + with_tie - words(ties)


class Names(unittest.TestCase):
    def test_least_of_all_words_into_which_a_word_is_turned(self):
        for word in [*SMALL, *DRAWN]:
            turns = told_turns(word)
            self.assertEqual(name_of(word), min(turns))
            self.assertEqual(name_of(word=word), min(turns))

    def test_the_same_for_all_words_of_a_tree(self):
        for word in DRAWN:
            for each in told_turns(word)[::7]:
                self.assertEqual(name_of(each), name_of(word))

    def test_great_words(self):
        for word in GREAT:
            self.assertEqual(in_short_time(name_of, word), min(told_turns(word)))

    def test_mirrored_tree(self):
        for word in [*SMALL, *DRAWN, *GREAT[:2]]:
            mirrored = word[::-1].translate({48: "1", 49: "0"})
            self.assertEqual(in_short_time(mirrored_tree, word), min(told_turns(mirrored)))
            self.assertEqual(mirrored_tree(word=word), name_of(mirrored))

    def test_what_is_no_word_is_refused(self):
        for value in [*NO_STRINGS, *NO_WORDS]:
            raised(BadWord("word"), name_of, value)
            raised(BadWord("word"), mirrored_tree, value)


class OneTree(unittest.TestCase):
    def test_all_words_of_up_to_five_pairs(self):
        for pairs in range(1, 6):
            turns = {word: told_turns(word) for word in LISTED[pairs]}
            for one in LISTED[pairs]:
                for other in LISTED[pairs]:
                    self.assertIs(are_one_tree(one, other), other in turns[one])
                    self.assertIs(are_one_tree(other=other, one=one), other in turns[one])

    def test_great_words(self):
        other = "1" * 100 + "10" * 100 + "0" * 100
        for word in [GREAT[0], *GREAT[3:]]:
            turns = told_turns(word)
            for each in (turns[0], turns[1], turns[-1], turns[len(turns) // 2]):
                self.assertIs(in_short_time(are_one_tree, word, each), True)
            self.assertIs(in_short_time(are_one_tree, word, other), False)

    def test_a_word_and_its_mirrored_one_may_be_two_trees(self):
        self.assertIs(are_one_tree("101100111000", "101101110000"), False)
        self.assertIs(are_one_tree("110010", "101100"), True)

    def test_unlike_many_pairs(self):
        for one in ["10", "1100", "110010", "10" * 199, "10" * 200]:
            for other in ["10", "1010", "101010", "10" * 199, "10" * 200]:
                if len(one) != len(other):
                    raised(Misfit("other"), are_one_tree, one, other)

    def test_order_of_errors(self):
        for value in [*NO_STRINGS, *NO_WORDS]:
            raised(BadWord("one"), are_one_tree, value, "10")
            raised(BadWord("one"), are_one_tree, value, value)
            raised(BadWord("one"), are_one_tree, other=None, one=value)
            raised(BadWord("other"), are_one_tree, "10", value)
            raised(BadWord("other"), are_one_tree, other=value, one="1100")


class StarAndLine(unittest.TestCase):
    def test_star(self):
        for pairs in range(1, 201):
            self.assertEqual(star(pairs), "10" * pairs)
            self.assertEqual(star(pairs=pairs), "10" * pairs)
        for pairs in range(1, 40):
            self.assertEqual(star(pairs), min(told_turns("10" * pairs)))

    def test_line(self):
        for pairs in range(1, 40):
            self.assertEqual(line(pairs), min(told_turns("1" * pairs + "0" * pairs)))
            self.assertEqual(line(pairs=pairs), line(pairs))
        for pairs in (99, 100, 199, 200):
            word = in_short_time(line, pairs)
            # No word of a line is less than one that begins with one of its ends, and goes on with the other one.
            self.assertEqual(word, "10" + "1" * (pairs - 1) + "0" * (pairs - 1))
            self.assertLessEqual(max(len(tied) for tied in told_ties(word).values()), 2)

    def test_refuse(self):
        for value in NO_PAIRS:
            for call in (star, line, how_many_trees):
                raised(BadNumber("pairs"), call, value)
                raised(BadNumber("pairs"), call, pairs=value)


class HowMany(unittest.TestCase):
    def test_against_the_count_that_is_told(self):
        for pairs in range(1, 201):
            many = in_short_time(how_many_trees, pairs)
            self.assertIs(type(many), int)
            self.assertEqual(many, told_count(pairs))

    def test_known_counts(self):
        known = [1, 1, 2, 3, 6, 14, 34, 95, 280, 854, 2694, 8714, 28640]
        self.assertEqual([how_many_trees(pairs=pairs) for pairs in range(1, 14)], known)


class AllTrees(unittest.TestCase):
    def test_against_names_of_listed_words(self):
        for pairs, words in LISTED.items():
            self.assertEqual(all_trees(pairs), tuple(sorted({min(told_turns(word)) for word in words})))
            self.assertEqual(all_trees(pairs=pairs), all_trees(pairs))

    def test_as_many_as_told_and_no_word_is_in_two(self):
        for pairs in range(1, 10):
            names = in_short_time(all_trees, pairs)
            self.assertIs(type(names), tuple)
            self.assertEqual(len(names), how_many_trees(pairs))
            self.assertEqual(list(names), sorted(names))
            words = [each for name in names for each in told_turns(name)]
            self.assertEqual(len(words), len(set(words)))
            self.assertEqual(len(words), comb(2 * pairs, pairs) // (pairs + 1))
            self.assertTrue(all(name <= told_turned(name) for name in names))

    def test_refuses(self):
        for value in [*NO_PAIRS, 10, 11, 200]:
            raised(BadNumber("pairs"), all_trees, value)


if __name__ == "__main__":
    unittest.main()
