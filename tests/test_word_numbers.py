"""How many words there are, and their numbers."""

import unittest

from everyhalf.errors import BadNumber, BadWord
from everyhalf.word_numbers import all_words, how_many_words, next_word, number_of, word_at
from tests.helper import (
    HUGE, NO_INTEGERS, NO_STRINGS, NO_WORDS, drawn_words, in_short_time, listed_words, raised, told_word,
)

LISTED = {pairs: listed_words(pairs) for pairs in range(1, 7)}
DRAWN = drawn_words("numbers", 30)
NO_PAIRS = [0, -1, 201, 10 ** 6, -(10 ** 400), *HUGE, *NO_INTEGERS]


def summed_words(most):
    """How many words of 0 to most pairs there are: by each of their first pairs."""
    many = [1]
    for pairs in range(1, most + 1):
        many.append(sum(many[u] * many[pairs - 1 - u] for u in range(pairs)))
    return many


MANY = summed_words(200)


def told_number(word):
    """How many words are less: at each 1, in how many ways a 0 in its place would go on to the end."""
    # For each height, in how many ways one comes from there to the end by the signs gone by, never below.
    ways = [1] + [0] * (len(word) + 1)
    number = height = 0
    for sign in reversed(word):
        height += 1 if sign == "0" else -1
        if sign == "1" and height > 0:
            number += ways[height - 1]
        ways = [below + above for below, above in zip([0, *ways], [*ways[1:], 0])]
    return number


class HowMany(unittest.TestCase):
    def test_against_sums(self):
        for pairs in range(1, 201):
            self.assertEqual(how_many_words(pairs), MANY[pairs])
            self.assertEqual(how_many_words(pairs=pairs), MANY[pairs])

    def test_against_listed_words(self):
        for pairs, words in LISTED.items():
            self.assertEqual(how_many_words(pairs), len(words))

    def test_refuses(self):
        for value in NO_PAIRS:
            raised(BadNumber("pairs"), how_many_words, value)


class Listed(unittest.TestCase):
    def test_all_words(self):
        for pairs, words in LISTED.items():
            self.assertEqual(all_words(pairs), tuple(words))
            self.assertEqual(all_words(pairs=pairs), tuple(words))

    def test_all_words_of_seven_to_nine_pairs(self):
        for pairs in (7, 8, 9):
            words = in_short_time(all_words, pairs)
            self.assertIs(type(words), tuple)
            self.assertEqual(len(words), MANY[pairs])
            self.assertEqual(list(words), sorted(set(words)))
            self.assertTrue(all(told_word(word) and len(word) == 2 * pairs for word in words))

    def test_all_words_refuses(self):
        for value in [*NO_PAIRS, 10, 11, 200]:
            raised(BadNumber("pairs"), all_words, value)

    def test_next_word(self):
        for words in LISTED.values():
            for word, following in zip(words, [*words[1:], None]):
                self.assertEqual(next_word(word), following)
                self.assertEqual(next_word(word=word), following)

    def test_next_word_of_many_pairs(self):
        for word in DRAWN:
            following = next_word(word)
            if following is not None:
                self.assertTrue(told_word(following))
                self.assertEqual(number_of(following), number_of(word) + 1)
        self.assertIsNone(next_word("1" * 200 + "0" * 200))
        self.assertEqual(next_word("10" * 200), "10" * 198 + "1100")


class Numbers(unittest.TestCase):
    def test_listed_words(self):
        for pairs, words in LISTED.items():
            for number, word in enumerate(words):
                self.assertEqual(number_of(word), number)
                self.assertEqual(number_of(word=word), number)
                self.assertEqual(word_at(pairs, number), word)
                self.assertEqual(word_at(number=number, pairs=pairs), word)

    def test_drawn_words(self):
        for word in DRAWN:
            pairs = len(word) // 2
            number = in_short_time(number_of, word)
            self.assertEqual(number, told_number(word))
            self.assertEqual(in_short_time(word_at, pairs, number), word)

    def test_first_and_last_of_each_number_of_pairs(self):
        for pairs in range(1, 201):
            first, last = "10" * pairs, "1" * pairs + "0" * pairs
            self.assertEqual((number_of(first), number_of(last)), (0, MANY[pairs] - 1))
            self.assertEqual((word_at(pairs, 0), word_at(pairs, MANY[pairs] - 1)), (first, last))

    def test_numbers_of_200_pairs(self):
        for number in [0, 1, 2, 10 ** 20, 10 ** 100, MANY[200] // 3, MANY[200] - 2, MANY[200] - 1]:
            word = word_at(200, number)
            self.assertTrue(told_word(word))
            self.assertEqual(number_of(word), number)

    def test_word_at_refuses(self):
        for pairs in [1, 2, 3, 9, 199, 200]:
            for number in [-1, MANY[pairs], MANY[pairs] + 1, -(10 ** 400), *HUGE[1:], *NO_INTEGERS]:
                raised(BadNumber("number"), word_at, pairs, number)
        for pairs in NO_PAIRS:
            for number in [0, -1, None, True, 10 ** 400]:
                raised(BadNumber("pairs"), word_at, pairs, number)
        raised(BadNumber("number"), word_at, number=1, pairs=1)

    def test_what_is_no_word_is_refused(self):
        for value in [*NO_STRINGS, *NO_WORDS]:
            raised(BadWord("word"), number_of, value)
            raised(BadWord("word"), next_word, value)

    def test_short_time(self):
        for word in ["10" * 200, "1" * 200 + "0" * 200, DRAWN[0]]:
            in_short_time(number_of, word)
            in_short_time(next_word, word)
        in_short_time(how_many_words, 200)
        in_short_time(word_at, 200, MANY[200] - 1)


if __name__ == "__main__":
    unittest.main()
