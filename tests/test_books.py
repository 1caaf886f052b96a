"""Books: against the tests' own ties of the rings of their words."""

import re
import unittest

from everyhalf.books import Book, before_by, chosen_book, next_by, post_by, swapped_by, word_behind_by
from everyhalf.errors import BadBook, BadNumber, BadState, BadText, BadWord, Misfit
from everyhalf.papers import Paper
from everyhalf.posts import post_of, swapped, word_behind
from everyhalf.rounds import next_state, state_before
from tests.helper import (
    HUGE, NO_INTEGERS, NO_STATES, NO_STRINGS, NO_WORDS, books_of_words, great_pulls, in_short_time, listed_pulls,
    listed_words, raised, told_chosen_words, told_posts, told_ring, told_round, told_state, told_stretch, told_swapped,
    told_turned, told_word,
)

BOOKS = books_of_words()


def told_bad_item(text):
    """The first item of a book's text that cannot stand, None if it is such a text."""
    items = text.split(" ")
    if not re.fullmatch("[1-9][0-9]?", items[0], re.ASCII) or not 2 <= int(items[0]) <= 60:
        return 0
    ahead = ""
    for at, item in enumerate(items):
        if at % 2 == 1 and (item != "/" or at > 600):
            return at
        if at % 2 == 0 and at > 0:
            if len(item) != 2 * int(items[0]) or not told_word(item) or item[:3] != "110" or item <= ahead:
                return at
            ahead = item
    return len(items) if len(items) % 2 == 0 else None


class Books(unittest.TestCase):
    def test_lists_and_tuples_in_any_order(self):
        for pairs, words in BOOKS:
            for given in (list(words), tuple(words), words[::-1], sorted(words, key=lambda word: word[::-1])):
                book = Book(pairs, given)
                self.assertEqual((book.pairs, book.words), (pairs, tuple(sorted(words))))
                self.assertIs(type(book.words), tuple)
                named = Book(words=given, pairs=pairs)
                self.assertEqual((named.pairs, named.words), (book.pairs, book.words))

    def test_changed_behind_the_call(self):
        words = ["110100", "110010"]
        book = Book(3, words)
        words.clear()
        self.assertEqual(book.words, ("110010", "110100"))
        words.extend(["110010", "111"])
        self.assertEqual(str(book), "3 / 110010 / 110100")

    def test_equal(self):
        books = [Book(pairs, words) for pairs, words in BOOKS]
        for one, (pairs, words) in zip(books, BOOKS):
            self.assertIs(one == Book(pairs, words[::-1]), True)
            for other in books:
                same = (one.pairs, one.words) == (other.pairs, other.words)
                self.assertIs(one == other, same)
                self.assertIs(one != other, not same)
        for other in [None, 3, "3 / 110010", ("110010",), [3, ["110010"]], Paper("book", 3, ("110010",)), Book]:
            self.assertIs(Book(3, ["110010"]) == other, False)
            self.assertIs(other == Book(3, ["110010"]), False)

    def test_methods_stand_in_the_class_itself(self):
        for name in ("__init__", "__eq__", "__str__", "read"):
            self.assertIn(name, vars(Book))

    def test_bounds(self):
        self.assertEqual((Book(2, []).pairs, Book(60, ()).pairs), (2, 60))
        words = great_pulls(60, 300)
        self.assertEqual(in_short_time(Book, 60, words).words, tuple(sorted(words)))
        self.assertEqual(Book(8, listed_pulls(8)[:300]).words, tuple(listed_pulls(8)[:300]))


class NoBook(unittest.TestCase):
    def test_pairs(self):
        for pairs in [1, 0, -1, -3, 61, 200, *HUGE, *NO_INTEGERS]:
            raised(BadBook("pairs"), Book, pairs, [])
            raised(BadBook("pairs"), Book, words=None, pairs=pairs)

    def test_words(self):
        for words in [*NO_INTEGERS, "110010", "", "110", iter(["110010"]), {"110010"}, {"110010": 1}, 3]:
            if words not in ([], ()):
                raised(BadBook("words"), Book, 3, words)
        for value in [*NO_STRINGS, *NO_WORDS, "1100", "11001010", "101010", "101100", "111000", "010101", ["110010"]]:
            raised(BadBook("words"), Book, 3, [value])
            raised(BadBook("words"), Book, 3, ("110010", value))
            raised(BadBook("words"), Book, words=[value, "110100"], pairs=3)
        raised(BadBook("words"), Book, 2, ["1010"])
        raised(BadBook("words"), Book, 60, ["10" * 60])

    def test_unlike_words(self):
        raised(BadBook("words"), Book, 3, ["110010", "110010"])
        raised(BadBook("words"), Book, 3, ("110010", "110100", "110010"))
        raised(BadBook("words"), Book, 8, listed_pulls(8)[:200] + listed_pulls(8)[:1])

    def test_more_than_300(self):
        raised(BadBook("words"), Book, 8, listed_pulls(8)[:301])
        raised(BadBook("words"), Book, 8, listed_pulls(8))
        raised(BadBook("words"), in_short_time, Book, 60, great_pulls(60, 301))
        raised(BadBook("words"), in_short_time, Book, 3, ["110010"] * 100000)


class Texts(unittest.TestCase):
    def test_told_and_read(self):
        for pairs, words in BOOKS:
            book = Book(pairs, words)
            text = " / ".join([f"{pairs}", *sorted(words)])
            self.assertEqual(str(book), text)
            self.assertIsNone(told_bad_item(text))
            self.assertIs(type(Book.read(text)), Book)
            self.assertEqual(Book.read(text), book)
            self.assertEqual(Book.read(text=text).words, book.words)

    def test_great_ones(self):
        for pairs, words in [(60, great_pulls(60, 300)), (60, great_pulls(60, 160)), (8, listed_pulls(8)[:300])]:
            book = Book(pairs, words)
            text = in_short_time(str, book)
            self.assertEqual(in_short_time(Book.read, text), book)

    def check(self, text):
        bad = told_bad_item(text)
        if bad is None:
            self.assertEqual(str(Book.read(text)), text)
        else:
            raised(BadText(0, bad), Book.read, text)

    def test_an_item_bent_at_any_place(self):
        bends = [
            "", "/", "//", "3", "2", "60", "61", "1", "0", "-3", "03", "+3", "3.0", "\uff13", "x", "1100", "110010",
            "110100", "101100", "111000", "110010\n", "\t", "11010010", "1" * 141, "10" * 60,
        ]
        for text in ["3", "3 / 110010", "3 / 110010 / 110100", "2 / 1100", "4 / 11001010 / 11010010 / 11010100"]:
            items = text.split(" ")
            for at in range(len(items)):
                for bend in bends:
                    self.check(" ".join([*items[:at], bend, *items[at + 1:]]))
                    self.check(" ".join([*items[:at], bend, *items[at:]]))
                    self.check(" ".join([*items[:at + 1], bend, *items[at + 1:]]))
                self.check(" ".join([*items[:at], *items[at + 1:]]))
                self.check(" ".join(items[:at]))

    def test_an_item_is_missing(self):
        raised(BadText(0, 2), Book.read, "3 /")
        raised(BadText(0, 4), Book.read, "3 / 110010 /")
        raised(BadText(0, 2), Book.read, "3 / ")
        raised(BadText(0, 0), Book.read, "")

    def test_an_integer_in_another_form(self):
        for item in ["03", "+3", "-3", "3.", "0", "1", "61", "3_0", "\u0663", "three", "3" * 141, "-0", "00"]:
            raised(BadText(0, 0), Book.read, item)
            raised(BadText(0, 0), Book.read, text=f"{item} / 110010")

    def test_words_not_ascending_or_that_cannot_be_pulled(self):
        raised(BadText(0, 4), Book.read, "3 / 110100 / 110010")
        raised(BadText(0, 4), Book.read, "3 / 110010 / 110010")
        raised(BadText(0, 6), Book.read, "4 / 11001010 / 11010010 / 11001100")
        for item in ["101010", "111000", "1100", "11001010", "100", "", "110001", "11001\uff10"]:
            raised(BadText(0, 2), Book.read, f"3 / {item}")
            raised(BadText(0, 4), Book.read, f"3 / 110010 / {item} / 110100")

    def test_more_than_300_words(self):
        text = " / ".join(["8", *listed_pulls(8)[:300]])
        self.assertEqual(len(Book.read(text).words), 300)
        raised(BadText(0, 601), Book.read, text + " /")
        raised(BadText(0, 601), Book.read, text + " / " + listed_pulls(8)[300])
        raised(BadText(0, 601), Book.read, text + " x")
        raised(BadText(0, 601), in_short_time, Book.read, " / ".join(["8", *listed_pulls(8), *listed_pulls(8)]))

    def test_other_values(self):
        for value in [*NO_STRINGS, Book(3, []), ["3"], ("3", "/", "110010")]:
            raised(BadText(0, 0), Book.read, value)


class ByABook(unittest.TestCase):
    def test_next_and_before(self):
        for pairs, words in BOOKS:
            book = Book(pairs, words)
            for state, behind in told_round(pairs, words).items():
                self.assertEqual(next_by(book, state), behind)
                self.assertEqual(before_by(book, behind), state)
                self.assertEqual(next_by(state=state, book=book), behind)
                self.assertEqual(before_by(state=behind, book=book), state)

    def test_posts(self):
        for pairs, words in BOOKS:
            book = Book(pairs, words)
            for state, post in told_posts(told_round(pairs, words)).items():
                self.assertEqual(post_by(book, state), post)
                self.assertEqual(post_by(state=state, book=book), post)

    def test_words(self):
        for pairs, words in BOOKS:
            book = Book(pairs, words)
            for word in listed_words(pairs):
                told = told_swapped(word, words)
                self.assertEqual(swapped_by(book, word), told)
                self.assertEqual(word_behind_by(book, word), told_turned(told))
                self.assertEqual(swapped_by(word=word, book=book), told)
                self.assertEqual(word_behind_by(word=word, book=book), told_turned(told))

    def test_by_the_book_of_chosen_words_as_the_round_tells_it(self):
        for pairs in range(2, 6):
            book = chosen_book(pairs)
            for state in told_round(pairs, []):
                self.assertEqual(next_by(book, state), next_state(state))
                self.assertEqual(before_by(book, state), state_before(state))
                self.assertEqual(post_by(book, state), post_of(state))
        for pairs in range(2, 8):
            book = chosen_book(pairs)
            for word in listed_words(pairs):
                self.assertEqual(swapped_by(book, word), swapped(word))
                self.assertEqual(word_behind_by(book, word), word_behind(word))

    def test_great_books(self):
        words = great_pulls(60, 300)
        book = Book(60, words)
        for word in words[::30]:
            x_low, y_high, y_low, z, a, x_high = told_ring(word)
            for one, other in [(x_low, y_high), (y_low, z), (x_high, a)]:
                self.assertEqual(in_short_time(next_by, book, one), other)
                self.assertEqual(in_short_time(before_by, book, other), one)
            pulled = "101" + word[3:]
            self.assertEqual(in_short_time(swapped_by, book, word), pulled)
            self.assertEqual(in_short_time(swapped_by, book, pulled), word)
            self.assertEqual(in_short_time(word_behind_by, book, word), told_turned(pulled))
            for offset, state in enumerate(told_stretch(word), start=1):
                self.assertEqual(in_short_time(post_by, book, state), (pulled, offset))
            self.assertEqual(post_by(book, a), (pulled, 6))

    def test_words_that_a_great_book_does_not_have(self):
        book = Book(60, great_pulls(60, 10))
        other = next(word for word in great_pulls(60, 40) if word not in book.words)
        self.assertEqual(swapped_by(book, other), other)
        self.assertEqual(swapped_by(book, "101" + other[3:]), "101" + other[3:])
        low = told_state(other, 0, False)
        self.assertEqual(next_by(book, low), told_state(told_turned(other), 1, True))


class ChosenBook(unittest.TestCase):
    def test_all_chosen_words(self):
        for pairs in range(2, 7):
            self.assertEqual(chosen_book(pairs), Book(pairs, list(told_chosen_words(pairs))))
            self.assertEqual(chosen_book(pairs=pairs), chosen_book(pairs))
        for pairs in (7, 8, 9):
            self.assertEqual(in_short_time(chosen_book, pairs).pairs, pairs)
        self.assertEqual(len(chosen_book(9).words), 279)

    def test_refused(self):
        for pairs in [1, 0, -1, 10, 60, 200, *HUGE, *NO_INTEGERS]:
            raised(BadNumber("pairs"), chosen_book, pairs)
            raised(BadNumber("pairs"), chosen_book, pairs=pairs)


class Refused(unittest.TestCase):
    BOOK = Book(3, ["110010"])
    NO_BOOKS = [*NO_STRINGS, *NO_WORDS, "3 / 110010", (3, ("110010",)), Book, Paper("book", 3, ("110010",))]

    def test_what_is_no_book(self):
        for value in self.NO_BOOKS:
            for call in (next_by, before_by, post_by, swapped_by, word_behind_by):
                for other in ("1101000", "110100", None, "100", ""):
                    raised(BadBook("book"), call, value, other)

    def test_what_is_no_state(self):
        for call in (next_by, before_by, post_by):
            for value in [*NO_STRINGS, *NO_STATES, "110010"]:
                raised(BadState("state"), call, self.BOOK, value)
                raised(BadState("state"), call, state=value, book=self.BOOK)

    def test_what_is_no_word(self):
        for call in (swapped_by, word_behind_by):
            for value in [*NO_STRINGS, *NO_WORDS, "1101000"]:
                raised(BadWord("word"), call, self.BOOK, value)
                raised(BadWord("word"), call, word=value, book=self.BOOK)

    def test_misfits(self):
        for call in (next_by, before_by, post_by):
            for state in ("100", "11000", "110101010", "10" * 200 + "0"):
                raised(Misfit("state"), call, self.BOOK, state)
                raised(Misfit("state"), call, state=state, book=self.BOOK)
        for call in (swapped_by, word_behind_by):
            for word in ("10", "1100", "11001010", "10" * 200):
                raised(Misfit("word"), call, self.BOOK, word)
                raised(Misfit("word"), call, word=word, book=self.BOOK)


if __name__ == "__main__":
    unittest.main()
