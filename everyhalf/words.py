"""Words: their first pairs, their turns, their mirrors.

Turning goes by the gaps of a word: for each sign, how far ahead around the
circle of all signs the sign stands that belongs to it. To turn a word is to
begin one sign later on this circle, so turning moves the gaps around and
changes none of them; and the gaps tell the word.
"""

from everyhalf.checks import MOST_PAIRS, check_number, is_signs
from everyhalf.errors import BadWord, TooMany


def is_word(value):
    """Whether any value is a word."""
    if not is_signs(value) or not 2 <= len(value) <= 2 * MOST_PAIRS:
        return False
    height = 0
    for sign in value:
        height += 1 if sign == "1" else -1
        if height < 0:
            return False
    return height == 0


def check_word(value, part):
    """Raises BadWord(part) unless the value is a word."""
    if not is_word(value):
        raise BadWord(part)


def pairs_in(word):
    """How many pairs the word has."""
    check_word(word, "word")
    return len(word) // 2


def first_pair(word):
    """The pair (u, v) of the word 1 u 0 v."""
    check_word(word, "word")
    close = gaps_of(word)[0]
    return word[1:close], word[close + 1:]


def joined_pair(u, v):
    """The word 1 u 0 v; each of both is a word or the empty string."""
    _check_part(u, "u")
    _check_part(v, "v")
    word = "1" + u + "0" + v
    if len(word) > 2 * MOST_PAIRS:
        raise TooMany("pairs", MOST_PAIRS)
    return word


def _check_part(value, part):
    if not isinstance(value, str) or value != "":
        check_word(value, part)


def turned(word):
    """The word turned once."""
    check_word(word, "word")
    return _word_turned(word, 1)


def turned_back(word):
    """The word turned back once."""
    check_word(word, "word")
    return _word_turned(word, -1)


def turned_by(word, many):
    """The word turned so many times; below 0, turned back."""
    check_word(word, "word")
    check_number(many, None, None, "many")
    return _word_turned(word, many)


def period(word):
    """The least number of turns, 1 at least, behind which it is itself."""
    check_word(word, "word")
    gaps = gaps_of(word)
    many = 1
    while moved_round(gaps, many) != gaps:
        many += 1
    return many


def turns_of(word):
    """The word, turned 0, 1, 2 .. times, as many words as its period."""
    many = period(word)
    gaps = gaps_of(word)
    return tuple([word_of_gaps(moved_round(gaps, turns)) for turns in range(many)])


def mirrored_word(word):
    """The word read backward, with all signs exchanged."""
    check_word(word, "word")
    return exchanged_signs(word[::-1])


def exchanged_signs(signs):
    """The string with 1 in the place of each 0, and 0 in that of each 1."""
    return "".join(["0" if sign == "1" else "1" for sign in signs])


def gaps_of(word):
    """For each sign of a word, how far on around the circle its other sign is."""
    gaps = [0] * len(word)
    still_open = []
    for at, sign in enumerate(word):
        if sign == "1":
            still_open.append(at)
        else:
            start = still_open.pop()
            gaps[start] = at - start
            gaps[at] = len(word) - gaps[start]
    return gaps


def moved_round(items, many):
    """The items from the one with the index many on, around the circle."""
    start = many % len(items)
    return items[start:] + items[:start]


def word_of_gaps(gaps):
    """The word whose signs are so far from their other signs."""
    return "".join(["1" if at + gap < len(gaps) else "0" for at, gap in enumerate(gaps)])


def _word_turned(word, many):
    return word_of_gaps(moved_round(gaps_of(word), many))
