"""Ranks: how far words and states stand behind the first ones of their rounds."""

from everyhalf.checks import check_number, check_pairs
from everyhalf.errors import TooMany
from everyhalf.posts import post_of, state_at
from everyhalf.pulls import is_chosen
from everyhalf.states import how_many_states
from everyhalf.steps import steps_of_a_word, word_next
from everyhalf.word_numbers import how_many_words
from everyhalf.words import check_word

MOST_PAIRS_OF_RANKS = 8


def word_rank(word):
    """How many words lead on the round of words from the first one to this one."""
    check_word(word, "word")
    _check_can_be_ranked(len(word) // 2)
    here = _first_word(len(word) // 2)
    rank = 0
    while here != word:
        here = word_next(here, is_chosen)
        rank += 1
    return rank


def word_ranked(pairs, rank):
    """The word of so many pairs that has this rank."""
    check_pairs(pairs)
    check_number(rank, 0, how_many_words(pairs) - 1, "rank")
    _check_can_be_ranked(pairs)
    word = _first_word(pairs)
    for _ in range(rank):
        word = word_next(word, is_chosen)
    return word


def rank_of(state):
    """How many steps lead on the round from the first state to this one."""
    word, offset = post_of(state)
    return steps_of_a_word(word) * word_rank(word) + offset


def state_ranked(pairs, rank):
    """The state of so many pairs that has this rank."""
    check_pairs(pairs)
    check_number(rank, 0, how_many_states(pairs) - 1, "rank")
    _check_can_be_ranked(pairs)
    words, offset = divmod(rank, steps_of_a_word(_first_word(pairs)))
    return state_at(word_ranked(pairs, words), offset)


def _check_can_be_ranked(pairs):
    if pairs > MOST_PAIRS_OF_RANKS:
        raise TooMany("pairs", MOST_PAIRS_OF_RANKS)


def _first_word(pairs):
    return "1" * pairs + "0" * pairs
