"""How many rounds come of a book, how long they are, and how far it is along them."""

from everyhalf.books import check_book, check_book_and_state, check_is_of_book, words_in
from everyhalf.homes import place_of
from everyhalf.knots import Knots
from everyhalf.states import check_state
from everyhalf.steps import post_at, steps_of_a_word


def round_long(book, state):
    """How many states the round of the state has by the book."""
    check_book_and_state(book, state)
    word = post_at(place_of(state), words_in(book))[0]
    _, words, _ = Knots(book).place_of_word(word)
    return words * steps_of_a_word(word)


def steps_by(book, one, other):
    """The least number of steps on by the book from one state to the other one; None on unlike rounds."""
    check_book(book, "book")
    check_state(one, "one")
    check_state(other, "other")
    check_is_of_book(book, len(one) // 2, "one")
    check_is_of_book(book, len(other) // 2, "other")
    knots = Knots(book)
    here, long, start = _place_on_round(book, knots, one)
    there, _, end = _place_on_round(book, knots, other)
    return (end - start) % long if here == there else None


def _place_on_round(book, knots, state):
    """What tells the state's round from all others, how long it is, and how many steps lead there to the state."""
    word, offset = post_at(place_of(state), words_in(book))
    number, words, at = knots.place_of_word(word)
    steps = steps_of_a_word(word)
    return number, words * steps, at * steps + offset


def how_many_rounds(book):
    """How many rounds there are by the book."""
    check_book(book, "book")
    return Knots(book).how_many_rounds()
