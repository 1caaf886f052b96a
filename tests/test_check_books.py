"""Judged books: against the tests' own rounds, and by papers that are bent."""

import random
import unittest
from math import comb

from everyhalf.books import Book, chosen_book
from everyhalf.check_books import OneRound, Rounds, judged_book, shows_book
from everyhalf.errors import BadBook
from everyhalf.papers import Denial, Paper
from everyhalf.sewing import how_many_rounds, steps_by
from tests.helper import (
    HUGE, NO_INTEGERS, NO_STATES, NO_STRINGS, NO_WORDS, Odd, great_pulls, in_short_time, listed_pulls, raised,
    rounds_in, told_books,
)

PLACES = [(Book(pairs, words), places) for pairs, words, places in told_books()]
ONE = [(book, places) for book, places in PLACES if rounds_in(places) == 1]
MANY = [(book, places) for book, places in PLACES if rounds_in(places) > 1]


class BelowOneRound(OneRound):
    pass


class BelowRounds(Rounds):
    pass


def values_of_any_kind():
    return [*NO_INTEGERS, *NO_STRINGS, *NO_WORDS, *HUGE, OneRound, Rounds, BadBook("book")]


class Judged(unittest.TestCase):
    def test_one_round(self):
        self.assertGreater(len(ONE), 5)
        for book, places in ONE:
            paper = judged_book(book)
            self.assertIs(type(paper), OneRound)
            self.assertEqual((paper.states, paper.parts), (len(places), (len(places),)))
            self.assertIs(bool(paper), True)

    def test_many_rounds(self):
        self.assertGreater(len(MANY), 5)
        for book, places in MANY:
            paper = judged_book(book)
            self.assertIs(type(paper), Rounds)
            self.assertEqual(paper.many, rounds_in(places))
            self.assertNotEqual(places[paper.one][0], places[paper.other][0])
            self.assertEqual(paper.parts, (paper.many, paper.one, paper.other))
            self.assertIs(bool(paper), False)

    def test_its_own_paper_shows_it(self):
        for book, _ in PLACES:
            self.assertIs(shows_book(book, judged_book(book)), True)
            self.assertIs(shows_book(value=judged_book(book=book), book=book), True)

    def test_equal_arguments_give_equal_papers(self):
        for book, _ in PLACES:
            same = Book(book.pairs, list(book.words)[::-1])
            self.assertEqual(judged_book(book), judged_book(same))
            self.assertEqual(judged_book(Book(book.pairs, book.words)), judged_book(book))

    def test_great_books(self):
        near_star = ["1100" + "10" * at + "1100" + "10" * (56 - at) for at in range(40)]
        books = [
            Book(60, []), Book(60, great_pulls(60, 40)), Book(60, near_star), Book(9, listed_pulls(9)[:300]),
            Book(9, listed_pulls(9)[-300:]), Book(9, random.Random(9).sample(listed_pulls(9), 300)),
            Book(33, great_pulls(33, 40)),
        ]
        for book in books:
            paper = in_short_time(judged_book, book)
            self.assertEqual((paper.word, paper.many), ("rounds", how_many_rounds(book)))
            self.assertEqual([len(state) for state in (paper.one, paper.other)], [2 * book.pairs + 1] * 2)
            self.assertIsNone(steps_by(book, paper.one, paper.other))
            self.assertTrue(in_short_time(shows_book, book, paper))
            self.assertFalse(in_short_time(shows_book, book, OneRound(2 * comb(2 * book.pairs + 1, book.pairs))))
        for pairs in range(2, 10):
            paper = in_short_time(judged_book, chosen_book(pairs))
            self.assertEqual(paper, OneRound(2 * comb(2 * pairs + 1, pairs)))
            self.assertTrue(in_short_time(shows_book, chosen_book(pairs), paper))

    def test_nearly_all_trees_are_one_round(self):
        for pairs in (6, 8, 9):
            words = chosen_book(pairs).words
            for without in (words[0], words[-1], words[len(words) // 2]):
                book = Book(pairs, [word for word in words if word != without])
                paper = in_short_time(judged_book, book)
                self.assertEqual(paper.many, 2)
                self.assertIsNone(steps_by(book, paper.one, paper.other))


class Shown(unittest.TestCase):
    def test_any_two_states_on_unlike_rounds(self):
        draw = random.Random("shown")
        for book, places in MANY:
            states, many = sorted(places), rounds_in(places)
            for _ in range(40):
                one, other = draw.choice(states), draw.choice(states)
                apart = places[one][0] != places[other][0]
                self.assertIs(shows_book(book, Rounds(many, one, other)), apart)
                self.assertIs(shows_book(book, Rounds(one=other, other=one, many=many)), apart)
            self.assertIs(shows_book(book, Rounds(many, states[0], states[0])), False)

    def test_other_numbers_of_rounds(self):
        for book, places in MANY:
            right = judged_book(book)
            for many in [0, 1, -right.many, right.many - 1, right.many + 1, *HUGE, *values_of_any_kind(), Odd()]:
                self.assertIs(shows_book(book, Rounds(many, right.one, right.other)), False)
            for many in (float(right.many), f"{right.many}", [right.many], (right.many,)):
                self.assertIs(shows_book(book, Rounds(many, right.one, right.other)), False)

    def test_what_is_no_state_of_the_book(self):
        for book, places in MANY[::4]:
            right = judged_book(book)
            others = [*values_of_any_kind(), *NO_STATES, right.one[:-1], right.one + "0", right.one + "10", "100"]
            for value in [*others, [right.one], (right.one,), Odd(), right, book]:
                if isinstance(value, str) and value in places:
                    continue
                self.assertIs(shows_book(book, Rounds(right.many, value, right.other)), False)
                self.assertIs(shows_book(book, Rounds(right.many, right.one, value)), False)
            self.assertIs(shows_book(book, Rounds(right.many, "10" * 200 + "0", "1" * 200 + "0" * 201)), False)

    def test_other_numbers_of_states(self):
        for book, places in ONE:
            many = len(places)
            self.assertIs(shows_book(book, OneRound(many)), True)
            self.assertIs(shows_book(book, OneRound(states=many)), True)
            others = [0, 1, -many, many - 1, many + 1, many // 2, *HUGE, *values_of_any_kind()]
            for value in [*others, float(many), f"{many}", [many], (many,), Odd()]:
                self.assertIs(shows_book(book, OneRound(value)), False)

    def test_true_and_false_are_no_numbers(self):
        for book, places in PLACES:
            for value in (True, False):
                self.assertIs(shows_book(book, OneRound(value)), False)
                self.assertIs(shows_book(book, Rounds(value, *sorted(places)[:2])), False)

    def test_the_paper_for_the_other_answer(self):
        for book, places in MANY:
            self.assertIs(shows_book(book, OneRound(len(places))), False)
            self.assertIs(shows_book(book, OneRound(max(long for _, long, _ in places.values()))), False)
        for book, places in ONE:
            states = sorted(places)
            for many in (0, 1, 2):
                self.assertIs(shows_book(book, Rounds(many, states[0], states[-1])), False)
                self.assertIs(shows_book(book, Rounds(many, states[0], states[0])), False)

    def test_values_that_are_no_papers_and_papers_of_other_classes(self):
        for book, _ in PLACES[::3]:
            right = judged_book(book)
            others = [right.parts, list(right.parts), right.word, str(right.parts), book, book.words, Odd()]
            made = [Paper(right.word, *right.parts), Denial(right.word, *right.parts), Paper("oneround", 20)]
            below = [BelowOneRound(20), BelowRounds(2, "11000", "10100")]
            if right:
                below.append(BelowOneRound(*right.parts))
            else:
                below.append(BelowRounds(*right.parts))
            for value in [*values_of_any_kind(), *others, *made, *below, type(right)]:
                self.assertIs(shows_book(book, value), False)

    def test_the_right_paper_of_another_book(self):
        for book, places in PLACES:
            for other, others in PLACES:
                right = judged_book(other)
                if book.pairs != other.pairs:
                    self.assertIs(shows_book(book, right), False)
                elif right:
                    self.assertIs(shows_book(book, right), rounds_in(places) == 1)
                else:
                    told = right.many == rounds_in(places) and places[right.one][0] != places[right.other][0]
                    self.assertIs(shows_book(book, right), told)


class Refused(unittest.TestCase):
    def test_what_is_no_book(self):
        for value in [*NO_STRINGS, *NO_WORDS, "3 / 110010", Book, (3, ("110010",)), Paper("book", 3, ()), OneRound(70)]:
            raised(BadBook("book"), judged_book, value)
            raised(BadBook("book"), judged_book, book=value)
            for paper in (OneRound(70), None, Rounds(2, "1110000", "1010100")):
                raised(BadBook("book"), shows_book, value, paper)
                raised(BadBook("book"), shows_book, value=paper, book=value)


if __name__ == "__main__":
    unittest.main()
