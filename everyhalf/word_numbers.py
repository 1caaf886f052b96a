"""The words of so many pairs, numbered ascending."""

from math import comb

from everyhalf.checks import check_number, check_pairs
from everyhalf.words import check_word

MOST_PAIRS_OF_WORDS = 9


def how_many_words(pairs):
    """How many words have so many pairs."""
    check_pairs(pairs)
    return _ways_on(pairs, pairs)


def number_of(word):
    """How many words of as many pairs are less."""
    check_word(word, "word")
    ones = zeros = len(word) // 2
    number = 0
    for sign in word:
        if sign == "1":
            number += _ways_on(ones, zeros - 1)
            ones -= 1
        else:
            zeros -= 1
    return number


def word_at(pairs, number):
    """The word of so many pairs that has this number."""
    check_pairs(pairs)
    check_number(number, 0, _ways_on(pairs, pairs) - 1, "number")
    ones = zeros = pairs
    left = number
    signs = []
    for _ in range(2 * pairs):
        with_zero = _ways_on(ones, zeros - 1)
        if left < with_zero:
            signs.append("0")
            zeros -= 1
        else:
            signs.append("1")
            ones -= 1
            left -= with_zero
    return "".join(signs)


def next_word(word):
    """The least word of as many pairs that is greater, None behind the last one."""
    check_word(word, "word")
    return _word_behind(word)


def all_words(pairs):
    """All words of so many pairs, ascending."""
    check_number(pairs, 1, MOST_PAIRS_OF_WORDS, "pairs")
    words = []
    word = "10" * pairs
    while word is not None:
        words.append(word)
        word = _word_behind(word)
    return tuple(words)


def _ways_on(ones, zeros):
    """In how many ways a word goes on with so many signs 1 and 0; none if it would go below."""
    if ones == 0:
        return 1
    return comb(ones + zeros, ones) - comb(ones + zeros, ones - 1)


def _word_behind(word):
    # A 0 with no 1 behind it cannot become a 1, as all ones stand ahead of it.
    at = word.rfind("01")
    if at < 0:
        return None
    head = word[:at] + "1"
    ones_left = len(word) // 2 - head.count("1")
    height = head.count("1") - head.count("0")
    return head + "0" * height + "10" * ones_left
