"""Books of pulls, and the round by a book: its words in the place of the chosen ones."""

from everyhalf.checks import check_number, is_within
from everyhalf.errors import BadBook, BadText, Misfit
from everyhalf.homes import place_of, state_of
from everyhalf.pull_ways import chosen_words
from everyhalf.pulls import can_pull
from everyhalf.states import check_state
from everyhalf.steps import place_before, place_next, post_at, word_next, word_swapped
from everyhalf.texts import integer_in, items_of
from everyhalf.words import check_word, is_word

LEAST_PAIRS = 2
MOST_PAIRS_OF_BOOKS = 60
MOST_PAIRS_OF_CHOSEN_BOOKS = 9
MOST_WORDS = 300


class Book:
    """A book of pulls: words of so many pairs that can be pulled."""

    def __init__(self, pairs, words):
        if not is_within(pairs, LEAST_PAIRS, MOST_PAIRS_OF_BOOKS):
            raise BadBook("pairs")
        if not _are_words_of_a_book(words, pairs):
            raise BadBook("words")
        self.pairs = pairs
        self.words = tuple(sorted(words))

    def __eq__(self, other):
        return type(self) is type(other) and self.pairs == other.pairs and self.words == other.words

    def __str__(self):
        return " / ".join([str(self.pairs), *self.words])

    @staticmethod
    def read(text):
        """The Book of this text."""
        items = items_of(text)
        pairs = integer_in(items[0])
        if not is_within(pairs, LEAST_PAIRS, MOST_PAIRS_OF_BOOKS):
            raise BadText(0, 0)
        words = []
        for at, item in enumerate(items[1:], start=1):
            if not _can_stand(item, at, words, pairs):
                raise BadText(0, at)
            if at % 2 == 0:
                words.append(item)
        if len(items) % 2 == 0:
            raise BadText(0, len(items))
        return Book(pairs, words)


def _are_words_of_a_book(words, pairs):
    if not isinstance(words, (list, tuple)) or len(words) > MOST_WORDS:
        return False
    return all([_is_pull_of(word, pairs) for word in words]) and len(set(words)) == len(words)


def _is_pull_of(value, pairs):
    """Whether any value is a word of so many pairs that can be pulled."""
    return is_word(value) and len(value) == 2 * pairs and can_pull(value)


def _can_stand(item, at, words, pairs):
    """Whether the item of a book's text can stand there, behind these words."""
    if at % 2 == 1:
        return item == "/" and len(words) < MOST_WORDS
    return _is_pull_of(item, pairs) and (not words or words[-1] < item)


def chosen_book(pairs):
    """The Book of all chosen words of so many pairs."""
    check_number(pairs, LEAST_PAIRS, MOST_PAIRS_OF_CHOSEN_BOOKS, "pairs")
    return Book(pairs, chosen_words(pairs))


def next_by(book, state):
    """The next state by the book."""
    check_book_and_state(book, state)
    return state_of(place_next(place_of(state), words_in(book)))


def before_by(book, state):
    """The state before by the book."""
    check_book_and_state(book, state)
    return state_of(place_before(place_of(state), words_in(book)))


def post_by(book, state):
    """The pair (word, offset) of the state's post by the book."""
    check_book_and_state(book, state)
    return post_at(place_of(state), words_in(book))


def swapped_by(book, word):
    """The word swapped by the book."""
    check_book_and_word(book, word)
    return word_swapped(word, words_in(book))


def word_behind_by(book, word):
    """The word swapped by the book, and then turned."""
    check_book_and_word(book, word)
    return word_next(word, words_in(book))


def words_in(book):
    """A function that tells of a word whether the book has it."""
    return lambda word: word in book.words


def check_book(value, part):
    """Raises BadBook(part) unless the value is a Book."""
    if not isinstance(value, Book):
        raise BadBook(part)


def check_is_of_book(book, pairs, part):
    """Raises Misfit(part) unless the book is one of so many pairs."""
    if pairs != book.pairs:
        raise Misfit(part)


def check_book_and_state(book, state):
    """Raises the errors of a book, of a state, and of a state that is not of its pairs."""
    check_book(book, "book")
    check_state(state, "state")
    check_is_of_book(book, len(state) // 2, "state")


def check_book_and_word(book, word):
    """Raises the errors of a book, of a word, and of a word that is not of its pairs."""
    check_book(book, "book")
    check_word(word, "word")
    check_is_of_book(book, len(word) // 2, "word")
