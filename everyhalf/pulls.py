"""Pulls: a leaf comes up to the root, and a tree becomes another one."""

from everyhalf.errors import Misfit
from everyhalf.words import check_word, gaps_of, moved_round, word_of_gaps


def can_pull(word):
    """Whether the word can be pulled."""
    check_word(word, "word")
    return word.startswith("110")


def pulled(word):
    """The word pulled."""
    check_can_pull(word)
    return "101" + word[3:]


def check_can_pull(word):
    """Raises BadWord("word"), or Misfit("word") unless the word can be pulled."""
    if not can_pull(word):
        raise Misfit("word")


def unpulled(word):
    """The word unpulled."""
    check_word(word, "word")
    if not word.startswith("101"):
        raise Misfit("word")
    return "110" + word[3:]


def is_right(word):
    """Whether the word can be pulled and is right."""
    return can_pull(word) and gaps_of(word)[0] <= _most_right(word)


def _most_right(word):
    # From the first sign of 1 1 0 u 0 v on its other sign is 3 and the signs of u away; u has at most n - 3.
    return len(word) // 2


def pulls_of(word):
    """The words of its tree that can be pulled, ascending."""
    check_word(word, "word")
    return _pulls_within(word, len(word))


def right_pulls(word):
    """The words of its tree that can be pulled and are right, ascending."""
    check_word(word, "word")
    return _pulls_within(word, _most_right(word))


def _pulls_within(word, most):
    """The words of its tree that can be pulled, the first sign of which is at most so far from its other one."""
    gaps = gaps_of(word)
    # A word begins 110 if its second sign is next to its other one, and its first one is not.
    starts = [at for at, gap in enumerate(moved_round(gaps, 1)) if gap == 1 and 1 < gaps[at] <= most]
    return tuple(sorted({word_of_gaps(moved_round(gaps, start)) for start in starts}))


def chosen_word(word):
    """The chosen word of its tree; None if there is none."""
    rights = right_pulls(word)
    return rights[0] if rights else None


def is_chosen(word):
    """Whether the word is the chosen word of its tree."""
    return is_right(word) and chosen_word(word) == word
