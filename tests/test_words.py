"""Words: against what the tests work out themselves from what [4] tells."""

import random
import unittest

from everyhalf.errors import BadNumber, BadWord, TooMany
from everyhalf.words import (
    first_pair, is_word, joined_pair, mirrored_word, pairs_in, period, turned, turned_back, turned_by, turns_of,
)
from tests.helper import (
    HUGE, NO_INTEGERS, NO_SIGNS, NO_STRINGS, NO_WORDS, all_signs, drawn_words, in_short_time, listed_words, raised,
    told_pair, told_turned, told_turns, told_word,
)

SMALL = [word for pairs in range(1, 6) for word in listed_words(pairs)]
DRAWN = drawn_words("words", 60)
# Words with short periods are seldom drawn.
ROUND = [
    "10" * 200, "1" * 200 + "0" * 200, "1100" * 100, "110100" * 60, "10" * 7, "1" * 100 + "0" * 100, "10101100",
]
WORDS = [*SMALL, *DRAWN, *ROUND]
OF_ONE_WORD = [pairs_in, first_pair, turned, turned_back, period, turns_of, mirrored_word]


class IsWord(unittest.TestCase):
    def test_all_short_strings_of_signs(self):
        for length in range(13):
            for text in all_signs(length):
                self.assertIs(is_word(text), told_word(text), text)

    def test_there_are_as_many_words_as_told(self):
        self.assertEqual([len(listed_words(pairs)) for pairs in range(1, 6)], [1, 2, 5, 14, 42])

    def test_drawn_words_and_words_with_one_sign_exchanged_or_two(self):
        draw = random.Random("is_word")
        for word in DRAWN:
            self.assertIs(is_word(word), True)
            at, to = draw.randrange(len(word)), draw.randrange(len(word))
            other = "0" if word[at] == "1" else "1"
            self.assertIs(is_word(word[:at] + other + word[at + 1:]), False)
            signs = list(word)
            signs[at], signs[to] = signs[to], signs[at]
            self.assertIs(is_word("".join(signs)), told_word("".join(signs)))

    def test_other_signs(self):
        for word in ["10", "110010", "10" * 200]:
            for sign in NO_SIGNS:
                for value in [word + sign, sign + word, word[:1] + sign + word[1:], sign + word[1:], word[:-1] + sign]:
                    with self.subTest(sign=sign):
                        self.assertIs(is_word(value), False)

    def test_bounds(self):
        for word in ["10", "10" * 200, "1" * 200 + "0" * 200, "1100" * 100]:
            self.assertIs(is_word(value=word), True)
        for word in ["", "10" * 201, "1" * 201 + "0" * 201, "10" * 10000]:
            self.assertIs(is_word(value=word), False)

    def test_other_values(self):
        for at, value in enumerate([*NO_STRINGS, *NO_WORDS]):
            with self.subTest(at=at):
                self.assertIs(is_word(value), False)


class Pairs(unittest.TestCase):
    def test_pairs_in(self):
        for word in WORDS:
            self.assertEqual(pairs_in(word), word.count("1"))

    def test_first_pair(self):
        for word in WORDS:
            self.assertEqual(first_pair(word), told_pair(word))
            self.assertIs(type(first_pair(word)), tuple)

    def test_first_pair_and_joined_pair_undo_one_another(self):
        for word in WORDS:
            self.assertEqual(joined_pair(*first_pair(word)), word)
        short = ["", *[word for pairs in (1, 2, 3, 4) for word in listed_words(pairs)]]
        for u in short:
            for v in short:
                self.assertEqual(joined_pair(u, v), "1" + u + "0" + v)
                self.assertEqual(first_pair(joined_pair(u=u, v=v)), (u, v))

    def test_joined_pair_at_the_bound(self):
        for u, v in [(199, 0), (0, 199), (100, 99), (1, 198)]:
            self.assertEqual(joined_pair("10" * u, "10" * v), "1" + "10" * u + "0" + "10" * v)
        for u, v in [(200, 0), (0, 200), (100, 100), (1, 199), (200, 200), (200, 1)]:
            raised(TooMany("pairs", 200), joined_pair, "10" * u, "10" * v)
            raised(TooMany("pairs", 200), joined_pair, v="10" * v, u="10" * u)

    def test_joined_pair_refuses(self):
        wrong = [value for value in [*NO_STRINGS, *NO_WORDS] if not isinstance(value, str) or value]
        for value in wrong:
            raised(BadWord("u"), joined_pair, value, "10")
            raised(BadWord("u"), joined_pair, value, value)
            raised(BadWord("u"), joined_pair, u=value, v="10" * 200)
            raised(BadWord("v"), joined_pair, "10", value)
            raised(BadWord("v"), joined_pair, "10" * 200, value)


class Turns(unittest.TestCase):
    def test_turned(self):
        for word in WORDS:
            self.assertEqual(turned(word), told_turned(word))

    def test_turned_and_turned_back_undo_one_another(self):
        for word in WORDS:
            self.assertEqual(turned_back(turned(word)), word)
            self.assertEqual(turned(turned_back(word)), word)

    def test_turned_by(self):
        for word in [*SMALL, *DRAWN[2:12], *ROUND[4:]]:
            turns = told_turns(word)
            for many in [*range(-12, 13), 399, 400, 401, -399, -400, -401]:
                self.assertEqual(turned_by(word, many), turns[many % len(turns)])

    def test_turned_by_very_great_numbers(self):
        for word in [*SMALL, *DRAWN[:6], *ROUND]:
            turns = told_turns(word)
            for many in HUGE:
                for each in (many, -many, many + 1, -many - 1):
                    self.assertEqual(in_short_time(turned_by, word=word, many=each), turns[each % len(turns)])

    def test_period_and_turns_by_turning(self):
        for word in WORDS:
            turns = told_turns(word)
            self.assertEqual(period(word), len(turns))
            self.assertEqual(turns_of(word), tuple(turns))

    def test_behind_two_n_turns_each_word_is_itself(self):
        for word in WORDS:
            self.assertEqual(turned_by(word, len(word)), word)
            self.assertEqual(len(word) % period(word), 0)

    def test_turned_by_refuses(self):
        for value in NO_INTEGERS:
            raised(BadNumber("many"), turned_by, "10", value)
            raised(BadNumber("many"), turned_by, word="110010", many=value)
        for value in [*NO_STRINGS, *NO_WORDS]:
            for many in (1, 0, None, True, "1"):
                raised(BadWord("word"), turned_by, value, many)


class Mirrored(unittest.TestCase):
    def test_mirrored(self):
        for word in WORDS:
            told = word[::-1].translate({48: "1", 49: "0"})
            self.assertEqual(mirrored_word(word), told)
            self.assertTrue(told_word(told))

    def test_mirrored_twice_it_is_the_word(self):
        for word in WORDS:
            self.assertEqual(mirrored_word(mirrored_word(word)), word)

    def test_turned_back_and_mirrored_is_mirrored_and_turned(self):
        for word in WORDS:
            self.assertEqual(mirrored_word(turned_back(word)), turned(mirrored_word(word)))


class AllOfOneWord(unittest.TestCase):
    def test_by_name(self):
        for call in OF_ONE_WORD:
            for word in SMALL:
                self.assertEqual(call(word=word), call(word))

    def test_what_is_no_word_is_refused(self):
        for call in OF_ONE_WORD:
            for value in [*NO_STRINGS, *NO_WORDS]:
                raised(BadWord("word"), call, value)
            raised(BadWord("word"), call, word="01")

    def test_short_time(self):
        for call in OF_ONE_WORD:
            for word in [*ROUND[:3], DRAWN[0], "10" * 10000]:
                if is_word(word):
                    in_short_time(call, word)
                else:
                    in_short_time(raised, BadWord("word"), call, word)


if __name__ == "__main__":
    unittest.main()
