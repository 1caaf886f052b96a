"""Whether a book makes one round, with papers that show it."""

from everyhalf.books import check_book
from everyhalf.checks import is_same
from everyhalf.homes import state_of
from everyhalf.knots import Knots
from everyhalf.papers import Denial, Paper, fixed, is_just
from everyhalf.sewing import steps_by
from everyhalf.states import how_many_states, is_state
from everyhalf.tree_names import star
from everyhalf.word_numbers import next_word


class OneRound(Paper):
    """There is one round, of so many states."""

    def __init__(self, states):
        super().__init__("oneround", states)
        self.states = fixed(states)


class Rounds(Denial):
    """There are so many rounds; two states are on unlike ones."""

    def __init__(self, many, one, other):
        super().__init__("rounds", many, one, other)
        self.many = fixed(many)
        self.one = fixed(one)
        self.other = fixed(other)


def judged_book(book):
    """The OneRound by the book, or its Rounds."""
    check_book(book, "book")
    knots = Knots(book)
    many = knots.how_many_rounds()
    if many == 1:
        return OneRound(how_many_states(book.pairs))
    one = star(book.pairs)
    other = _word_off_the_round(knots, one)
    return Rounds(many, state_of((one, 0, False)), state_of((other, 0, False)))


def _word_off_the_round(knots, word):
    """The first greater word that is not on the round of this one; there is such a word."""
    number = knots.place_of_word(word)[0]
    other = next_word(word)
    # Few words are gone by: if they are of many trees, these have knots, as a tree without knots is a round.
    while knots.place_of_word(other)[0] == number:
        other = next_word(other)
    return other


def shows_book(book, value):
    """Whether any value is a right paper on the book."""
    check_book(book, "book")
    many = Knots(book).how_many_rounds()
    if many == 1:
        return is_just(value, OneRound(how_many_states(book.pairs)))
    if type(value) is Rounds:
        return is_same(value.many, many) and _are_on_unlike_rounds(book, value.one, value.other)
    return False


def _are_on_unlike_rounds(book, one, other):
    """Whether two values of any kind are states of the book's pairs on unlike rounds by it."""
    if not all([is_state(state) and len(state) // 2 == book.pairs for state in (one, other)]):
        return False
    return steps_by(book, one, other) is None
