"""Sewing: against walking along the tests' own rounds, state by state, and word by word where there are many."""

import random
import unittest
from math import comb

from everyhalf.books import Book, chosen_book
from everyhalf.errors import BadBook, BadState, Misfit
from everyhalf.papers import Paper
from everyhalf.sewing import how_many_rounds, round_long, steps_by
from tests.helper import (
    NO_STATES, NO_STRINGS, NO_WORDS, great_pulls, in_short_time, listed_pulls, listed_words, raised, rounds_in,
    told_books, told_places, told_right, told_state, told_swapped, told_turned, told_turns,
)

PLACES = [(Book(pairs, words), places) for pairs, words, places in told_books()]
TREES = {2: 1, 3: 2, 4: 3, 5: 6, 6: 14, 7: 34, 8: 95, 9: 280}


def told_word_places(words, pulls):
    """For each of these words its round of words, by walking: as many words as come again."""
    return told_places({word: told_turned(told_swapped(word, pulls)) for word in words})


def told_tree(word):
    return min(told_turns(word))


def has_ring_of_trees(pulls):
    """Whether one of the words joins two trees that are one already, or are joined by words ahead of it."""
    groups = {}
    for word in pulls:
        one, other = (groups.get(tree, {tree}) for tree in (told_tree(word), told_tree("101" + word[3:])))
        if one == other:
            return True
        groups.update({tree: one | other for tree in one | other})
    return False


def right_ones(pairs, draw):
    """A right word of each tree but the star, drawn."""
    rights = {}
    for word in listed_pulls(pairs):
        if told_right(word):
            rights.setdefault(told_tree(word), []).append(word)
    return [draw.choice(words) for words in rights.values()]


class AgainstWalking(unittest.TestCase):
    def test_how_many_rounds(self):
        for book, places in PLACES:
            self.assertEqual(how_many_rounds(book), rounds_in(places))
            self.assertEqual(how_many_rounds(book=book), rounds_in(places))

    def test_how_long_the_round_of_each_state_is(self):
        for book, places in PLACES:
            for state in sorted(places)[::1 if book.pairs < 5 else 3]:
                self.assertEqual(round_long(book, state), places[state][1])
                self.assertEqual(round_long(state=state, book=book), places[state][1])

    def check_steps(self, book, places, one, other):
        first, long, start = places[one]
        there, _, end = places[other]
        told = (end - start) % long if first == there else None
        self.assertEqual(steps_by(book, one, other), told)
        self.assertEqual(steps_by(other=other, one=one, book=book), told)

    def test_steps_between_all_states_of_two_pairs(self):
        for book, places in PLACES:
            if book.pairs == 2:
                for one in places:
                    for other in places:
                        self.check_steps(book, places, one, other)

    def test_steps_between_drawn_states(self):
        draw = random.Random("steps")
        for book, places in PLACES:
            states = sorted(places)
            for _ in range(150):
                self.check_steps(book, places, draw.choice(states), draw.choice(states))
            for state in draw.sample(states, 5):
                self.check_steps(book, places, state, state)

    def test_steps_there_and_back(self):
        draw = random.Random("back")
        for book, places in PLACES:
            states = sorted(places)
            for _ in range(30):
                one, other = draw.sample(states, 2)
                there, back = steps_by(book, one, other), steps_by(book, other, one)
                self.assertEqual(there is None, back is None)
                self.assertEqual(there is None, places[one][0] != places[other][0])
                if there is not None:
                    self.assertEqual(there + back, round_long(book, one))
                    self.assertEqual(round_long(book, one), round_long(book, other))

    def test_both_kinds_of_books_are_there(self):
        for one_round in (True, False):
            for ring in (True, False):
                self.assertTrue(any(
                    book.pairs > 2 and has_ring_of_trees(book.words) == ring
                    and (rounds_in(places) == 1) == one_round for book, places in PLACES
                ), (one_round, ring))


class Facts(unittest.TestCase):
    def test_each_word_more_makes_one_of_two_or_two_of_one(self):
        draw = random.Random("more")
        for pairs in (2, 3, 4, 5, 6):
            words = listed_words(pairs)
            pulls = draw.sample(listed_pulls(pairs), len(listed_pulls(pairs)))
            told = how_many_rounds(Book(pairs, []))
            self.assertEqual(told, TREES[pairs])
            for many, word in enumerate(pulls[:60]):
                places = told_word_places(words, set(pulls[:many]))
                told += 1 if places[word][0] == places["101" + word[3:]][0] else -1
                self.assertEqual(how_many_rounds(Book(pairs, pulls[:many + 1])), told)

    def test_rings_of_trees(self):
        draw, seen = random.Random("rings"), []
        for pairs in range(2, 8):
            pulls = listed_pulls(pairs)
            for _ in range(25):
                words = draw.sample(pulls, draw.randint(0, min(len(pulls), TREES[pairs])))
                rounds, ring = how_many_rounds(Book(pairs, words)), has_ring_of_trees(words)
                seen.append(ring)
                if ring:
                    self.assertGreater(rounds, TREES[pairs] - len(words))
                    self.assertEqual((rounds - TREES[pairs] + len(words)) % 2, 0)
                else:
                    self.assertEqual(rounds, TREES[pairs] - len(words))
        self.assertGreater(seen.count(True), 10)
        self.assertGreater(seen.count(False), 10)

    def test_a_right_word_of_each_tree_but_the_star_gives_one_round(self):
        draw = random.Random("right")
        for pairs in range(2, 9):
            for _ in range(5 if pairs < 8 else 1):
                book = Book(pairs, right_ones(pairs, draw))
                self.assertEqual(len(book.words), TREES[pairs] - 1)
                self.assertEqual(how_many_rounds(book), 1)
                self.assertEqual(round_long(book, "10" * pairs + "1"), 2 * comb(2 * pairs + 1, pairs))
                for word in book.words[:3]:
                    left = Book(pairs, [each for each in book.words if each != word])
                    self.assertEqual(how_many_rounds(left), 2)

    def test_the_chosen_words(self):
        for pairs in range(2, 10):
            book = chosen_book(pairs)
            self.assertEqual(in_short_time(how_many_rounds, book), 1)
            self.assertEqual(in_short_time(round_long, book, "1" * pairs + "0" * pairs + "0"),
                             2 * comb(2 * pairs + 1, pairs))

    def test_trees_by_themselves(self):
        for pairs in range(2, 8):
            none = Book(pairs, ())
            self.assertEqual(how_many_rounds(none), TREES[pairs])
            for word in listed_words(pairs)[::7]:
                state = told_state(word, 2, True)
                self.assertEqual(round_long(none, state), 2 * len(told_turns(word)) * (2 * pairs + 1))


def check_words(test, book, words, places, many=60):
    """Checks lengths and steps of states of some words by the book against the words' own rounds."""
    draw, each = random.Random(f"{book}"), 4 * book.pairs + 2
    lows = [told_state(word, 0, False) for word in words]
    for _ in range(many):
        (one, low), (other, there) = draw.choices(list(zip(words, lows)), k=2)
        first, long, start = places[one]
        second, _, end = places[other]
        test.assertEqual(in_short_time(round_long, book, low), long * each)
        told = (end - start) % long * each if first == second else None
        test.assertEqual(in_short_time(steps_by, book, low, there), told)


class GreatBooks(unittest.TestCase):
    def test_nine_pairs_and_300_words(self):
        words, pulls = listed_words(9), listed_pulls(9)
        for seed in range(3):
            book = Book(9, random.Random(seed).sample(pulls, 300))
            places = told_word_places(words, set(book.words))
            self.assertEqual(in_short_time(how_many_rounds, book), rounds_in(places))
            check_words(self, book, words, places, 25)

    def test_forty_words_of_sixty_pairs(self):
        pulls = great_pulls(60, 40)
        # Near the star and near the line words that are pulled stay among each other's trees for long.
        small = ["1100" + "10" * at + "1100" + "10" * (56 - at) for at in range(40)]
        for words in (pulls, small):
            book = Book(60, words)
            told, near = set(words), []
            for word in words:
                near += told_turns(word) + told_turns("101" + word[3:])
            near = list(dict.fromkeys(near))
            places = told_word_places(near, told)
            alone = in_short_time(how_many_rounds, Book(60, []))
            trees = len({min(told_turns(word)) for each in words for word in (each, "101" + each[3:])})
            self.assertEqual(in_short_time(how_many_rounds, book), alone - trees + rounds_in(places))
            check_words(self, book, near, places)

    def test_a_tree_without_a_word_is_a_round_by_itself(self):
        book = Book(60, great_pulls(60, 40))
        for word in ("10" * 60, "1" * 60 + "0" * 60, "1100" * 30):
            turns = told_turns(word)
            low = told_state(word, 0, False)
            self.assertEqual(in_short_time(round_long, book, low), len(turns) * 242)
            for many in (0, 1, len(turns) - 1):
                there = told_state(turns[many], 0, False)
                self.assertEqual(in_short_time(steps_by, book, low, there), many * 242)
                self.assertEqual(steps_by(book, there, low), -many * 242 % (len(turns) * 242))

    def test_other_numbers_of_pairs(self):
        for pairs in (10, 20, 33, 59):
            words = great_pulls(pairs, 40)
            book = Book(pairs, words)
            near = list(dict.fromkeys(
                turn for word in words for each in (word, "101" + word[3:]) for turn in told_turns(each)
            ))
            places = told_word_places(near, set(words))
            check_words(self, book, near, places, 20)

    def test_300_words_of_60_pairs(self):
        self.assertGreater(how_many_rounds(Book(60, great_pulls(60, 300))), 10 ** 25)


class Refused(unittest.TestCase):
    BOOK = Book(3, ["110010"])

    def test_what_is_no_book(self):
        for value in [*NO_STRINGS, *NO_WORDS, "3", Book, (3, ("110010",)), Paper("book", 3, ("110010",))]:
            raised(BadBook("book"), how_many_rounds, value)
            raised(BadBook("book"), how_many_rounds, book=value)
            for state in ("1101000", "100", None):
                raised(BadBook("book"), round_long, value, state)
                raised(BadBook("book"), steps_by, value, state, state)

    def test_what_is_no_state(self):
        for value in [*NO_STRINGS, *NO_STATES, "110010"]:
            raised(BadState("state"), round_long, self.BOOK, value)
            raised(BadState("state"), round_long, state=value, book=self.BOOK)
            for other in ("1101000", "100", None, "10"):
                raised(BadState("one"), steps_by, self.BOOK, value, other)
            for one in ("1101000", "100", "11000"):
                raised(BadState("other"), steps_by, self.BOOK, one, value)
                raised(BadState("other"), steps_by, other=value, one=one, book=self.BOOK)

    def test_misfits_come_behind(self):
        for state in ("100", "11000", "110101010", "10" * 200 + "0"):
            raised(Misfit("state"), round_long, self.BOOK, state)
            raised(Misfit("state"), round_long, state=state, book=self.BOOK)
            for other in ("1101000", "100", "11000", state):
                raised(Misfit("one"), steps_by, self.BOOK, state, other)
            raised(Misfit("other"), steps_by, self.BOOK, "1101000", state)
            raised(Misfit("other"), steps_by, other=state, one="1101000", book=self.BOOK)


if __name__ == "__main__":
    unittest.main()
