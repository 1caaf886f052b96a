"""Posts: where on the round of all words a state stands, and how many steps behind its word."""

from everyhalf.checks import check_number
from everyhalf.homes import place_of, state_of
from everyhalf.pulls import is_chosen
from everyhalf.states import check_state
from everyhalf.steps import place_with_post, post_at, steps_of_a_word, word_before, word_next, word_swapped
from everyhalf.words import check_word

MOST_WORDS_ON = 1000
MOST_STEPS_FAR = 10000


def swapped(word):
    """The word pulled if it is chosen, unpulled if it is a chosen one pulled, or else itself."""
    check_word(word, "word")
    return word_swapped(word, is_chosen)


def word_behind(word):
    """The word swapped, and then turned."""
    check_word(word, "word")
    return word_next(word, is_chosen)


def word_ahead(word):
    """The word whose word behind it is this one."""
    check_word(word, "word")
    return word_before(word, is_chosen)


def words_on(word, many):
    """So many next words, each behind the one before it."""
    check_word(word, "word")
    check_number(many, 0, MOST_WORDS_ON, "many")
    words = []
    here = word
    for _ in range(many):
        here = word_next(here, is_chosen)
        words.append(here)
    return tuple(words)


def post_of(state):
    """The pair (word, offset) of the state's post."""
    return post_at(place_of(state), is_chosen)


def state_at(word, offset):
    """The state with this post."""
    check_word(word, "word")
    check_number(offset, 0, steps_of_a_word(word) - 1, "offset")
    return state_of(place_with_post(word, offset, is_chosen))


def far_next(state, many):
    """The state so many steps on; below 0, back."""
    check_state(state, "state")
    check_number(many, -MOST_STEPS_FAR, MOST_STEPS_FAR, "many")
    word, offset = post_of(state)
    words, offset = divmod(offset + many, steps_of_a_word(word))
    for _ in range(words):
        word = word_next(word, is_chosen)
    for _ in range(-words):
        word = word_before(word, is_chosen)
    return state_of(place_with_post(word, offset, is_chosen))
